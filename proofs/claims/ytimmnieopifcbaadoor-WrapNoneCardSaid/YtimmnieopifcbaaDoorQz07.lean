/- Texts that belong together, one behind the other. -/
import Derived.KernelRfl
import Derived.Laws.ResultCell
import Derived.Deep.MidRow
import Derived.WalkKit
import Derived.WalkSpells
import Derived.WalkLawsBesides
import Derived.Lib.Hide
import Derived.Deep.QuietTactic
import Derived.BigQuiet
import Derived.Deep.RegionHeld3
import Derived.Deep.AppendLies
import Derived.OneCell
import Derived.Deep.Quiet
import Derived.OrdersHeld
import Derived.Deep.RegionHeld
import Derived.ChangeKeysEq
import Derived.Deep.CutRange
import Derived.Laws.Tables
import Derived.Great.BuildSlice
import Derived.Lib.Mul64
import Derived.Laws.Bits64b
import Derived.Laws.Externs
import Derived.Laws.Slices
import Derived.Deep.RegionWith
import Derived.StillTailTactics
import Derived.ProofKit
import Derived.Laws.CopyOwn
import Derived.Laws.MakeOwn
import Derived.Lib.ConvBytes
import Derived.Laws.AppendOwn
import Derived.WalkMore
import Derived.ScopeJumps
import Derived.Control
import Derived.Laws.Entries
import Derived.Laws.OwnMore
import Derived.Deep.Onto
import Derived.Lib.AppendZeros
import Derived.Deep.LoopGhost
import Derived.Test.YtimmnieopifcbaaDoorQz01
import Derived.Test.YtimmnieopifcbaaDoorQz02
import Derived.Test.YtimmnieopifcbaaDoorQz04
import Derived.Test.YtimmnieopifcbaaDoorQz05
import Derived.Test.YtimmnieopifcbaaDoorQz06
namespace Go.Proofs.YtimmnieopifcbaaDoor
set_option linter.unusedVariables false
set_option linter.unusedSimpArgs false
open Go.RowKit
theorem wra_nonce (w : World) : (Instr.build 39 #[]).run Tryd.prog w = .ok (.agg ((zB 12).map bval).toArray) w := by
 simp [Instr.build, Tryd.zeroValue39]
 rfl
set_option maxRecDepth 100000 in
set_option maxHeartbeats 4000000 in
theorem wbet_any (eb zb : List UInt8) (w : World) (he : eb.length = 32) (hz : zb.length = 32) (hG : GlobR w) :
  Calls Tryd.prog 12 #[.agg (eb.map bval).toArray, .agg (zb.map bval).toArray] w fun e w' => e = .returned (.agg ((betK eb zb).map bval).toArray) ∧ Below w.heap.size w w' := by
 have HB := Lib.hid (boxes3 w (eb.map bval) (zb.map bval) (ints .u8 (List.replicate 32 0)) 23 23 23)
 have HG := Lib.hid hG
 have HEL := Lib.hid he
 have HZL := Lib.hid hz
 clear he hz hG
 go_enter Tryd.func12, Tryd.ntmps12
 go_upto_region 1 with (fail)
 obtain ⟨H1, H2, H3, HE⟩ := HB.out
 change Code.wp _ _ _ _ (((w.alloc (.cells (eb.map bval).toArray 23)).alloc (.cells (zb.map bval).toArray 23)).alloc (.cells (ints .u8 (List.replicate 32 0)).toArray 23))
 generalize ((w.alloc (.cells (eb.map bval).toArray 23)).alloc (.cells (zb.map bval).toArray 23)).alloc (.cells (ints .u8 (List.replicate 32 0)).toArray 23) = wa at *
 obtain ⟨A, hA⟩ : ∃ A, A = w.heap.size := ⟨_, rfl⟩
 have HLA : Hid (w.heap.size ≤ A + 1 + 1) := Lib.hid (by omega)
 rw [← hA] at H1 H2 H3 ⊢
 have H1 := Lib.hid H1
 have H2 := Lib.hid H2
 have H3 := Lib.hid H3
 have HE : Hid (Ext w wa) := Lib.hid HE
 clear hA HB
 have B0 : Ext wa wa.drew := Ext.drew _
 refine wp_region_held_drew (S := fun w' => Far (A + 1 + 1) wa w') (by kernel_rfl) (fars_ext B0) (fun hHeld => ?_)
 refine wpAnyH_take (i := 0) (v := .slice (some ⟨A, 0, none⟩) 32 32) rfl (by kernel_rfl) (by kernel_rfl) (by kernel_rfl) (fun _ _ _ h => h) (yi_slice _ _ _ _ (.pointer (some ⟨A, 0, none⟩)) (.slice (some ⟨A, 0, none⟩) 32 32) none none (by rfl) rfl rfl rfl rfl (fun w => cut_whole Tryd.underlying23 Tryd.sizeOf5 (by omega) _ w)) hHeld ?_
 simp only [Act.put, nrm]
 refine wpAnyH_take (i := 1) (v := .slice (some ⟨A + 1, 0, none⟩) 32 32) rfl (by kernel_rfl) (by kernel_rfl) (by kernel_rfl) (fun _ _ _ h => h) (yi_slice _ _ _ _ (.pointer (some ⟨A + 1, 0, none⟩)) (.slice (some ⟨A + 1, 0, none⟩) 32 32) none none (by rfl) rfl rfl rfl rfl (fun w => cut_whole Tryd.underlying23 Tryd.sizeOf5 (by omega) _ w)) hHeld ?_
 simp only [Act.put, nrm]
 refine wpAnyH_ready (rs := [2]) (by kernel_rfl) (by simp) (AllReadyH.cons rfl (fun K hK => ?_) AllReadyH.nil)
 go_simp
 refine (DExtract_num _ _ eb zb wa.drew ((blk_row (n := 32) H1.out (by rw [List.length_map]; exact HEL.out) (by unfold maxLen; omega)).below B0) ((blk_row (n := 32) H2.out (by rw [List.length_map]; exact HZL.out) (by unfold maxLen; omega)).below B0) (by rw [HEL.out]; decide) (by rw [HZL.out]; decide) (HG.out.ext (HE.out.trans B0))).mono ?_
 rintro e m1 ⟨rfl, b1⟩
 have N1 : Ext wa m1 := B0.trans b1
 refine hK.out _ _ (fars_ext N1) (fun hHeld => ?_)
 clear hK K
 try simp only [Act.put, nrm]
 refine wpAnyH_ready (rs := [3]) (by kernel_rfl) (by simp) (AllReadyH.cons rfl (fun K hK => ?_) AllReadyH.nil)
 go_simp
 refine (DKey_num (hmac eb zb) wraN m1 (hmac_length _ _) (by decide) (HG.out.ext (HE.out.trans N1))).mono ?_
 rintro e m2 ⟨rfl, b2⟩
 have N2 : Ext wa m2 := N1.trans b2
 refine hK.out _ _ (fars_ext N2) (fun hHeld => ?_)
 clear hK K
 try simp only [Act.put, nrm]
 refine wpAnyH_ready (rs := [4]) (by kernel_rfl) (by simp) (AllReadyH.cons rfl (fun K hK => ?_) AllReadyH.nil)
 refine step_wp (by rfl) ?_
 refine wp_store_blk _ _ _ rfl (A + 1 + 1) ((hExpand (hmac eb zb) wraN 32).map bval) rfl rfl _ _ (ext_blk H3.out N2) (by rw [List.length_map, hExpand_length, ints_length]; rfl) (num_size ((hExpand_length _ _ _))) (bval_one _) ?_
 intro m3 hb3 hg3
 refine hK.out _ _ (fars_put N2 hg3) (fun hHeld => ?_)
 clear hK K
 try simp only [Act.put, nrm]
 refine wpAnyH_done (by kernel_rfl) ?_ _
 have hfin := hb3
 have hNN := ext_grown (HE.out.trans N2) hg3 HLA.out
 generalize m3 = w11 at hfin hNN ⊢
 have HIo : Hid ((Tryd.prog.info? 23).map (·.size) = some ((hExpand (hmac eb zb) wraN 32).map bval).length) := Lib.hid (num_size (hExpand_length _ _ _))
 go_wp2_with fail
 refine bodyPost_ret (result_blk rfl _ (A + 1 + 1) _ _ _ _ rfl hfin Tryd.underlying23 HIo.out) rfl ?_
 exact ⟨rfl, hNN⟩
set_option maxRecDepth 100000 in
set_option maxHeartbeats 8000000 in
theorem WWrap_num (tb draw key : List UInt8) (w : World) (ht : tb.length = 32) (hd : draw.length = 32) (hk : key.length = 32) (hG : GlobR w) :
  Calls Tryd.prog 6 #[.agg (tb.map bval).toArray, .agg (draw.map bval).toArray, .agg (key.map bval).toArray] w fun e w' => ∃ x, e = .returned (.tuple #[x, .int .i64 (shErr draw tb)]) ∧ Row1 w' x ((wraL tb draw key).map bval) ∧ Below w.heap.size w w' := by
 have HB := Lib.hid (boxes3 w (tb.map bval) (draw.map bval) (key.map bval) 23 23 23)
 have HG := Lib.hid hG
 have HTL := Lib.hid ht
 have HDL := Lib.hid hd
 have HKL := Lib.hid hk
 have HIT := Lib.hid (num_size ht)
 have HID := Lib.hid (num_size hd)
 have HIK := Lib.hid (num_size hk)
 clear ht hd hk hG
 go_enter Tryd.func6, Tryd.ntmps6
 go_upto_region 1 with (fail)
 obtain ⟨H1, H2, H3, HE⟩ := HB.out
 change Code.wp _ _ _ _ (((w.alloc (.cells (tb.map bval).toArray 23)).alloc (.cells (draw.map bval).toArray 23)).alloc (.cells (key.map bval).toArray 23))
 generalize ((w.alloc (.cells (tb.map bval).toArray 23)).alloc (.cells (draw.map bval).toArray 23)).alloc (.cells (key.map bval).toArray 23) = wa at *
 obtain ⟨A, hA⟩ : ∃ A, A = w.heap.size := ⟨_, rfl⟩
 have HLA : Hid (w.heap.size ≤ A) := Lib.hid (by omega)
 rw [← hA] at H1 H2 H3 ⊢
 have H1 := Lib.hid H1
 have H2 := Lib.hid H2
 have H3 := Lib.hid H3
 have HE : Hid (Ext w wa) := Lib.hid HE
 clear hA HB
 have HC := Lib.hid (LShared_num draw tb wa HDL.out HTL.out)
 have HZL : Hid ((ladB draw tb).length = 32) := Lib.hid (ladB_length _ _)
 have HWL : Hid (wraL tb draw key = if ladB draw tb = zer then [] else pubB draw ++ sealB (betK (pubB draw) (ladB draw tb)) (zB 12) key tb) := Lib.hid rfl
 have HER : Hid (shErr draw tb = if ladB draw tb = zer then 21 else 0) := Lib.hid rfl
 obtain ⟨z, hz⟩ : ∃ z, z = ladB draw tb := ⟨_, rfl⟩
 rw [← hz] at HC HZL HWL HER
 have HzL := HZL
 obtain ⟨er, her⟩ : ∃ er, er = shErr draw tb := ⟨_, rfl⟩
 rw [← her] at HC HER
 have HERQ := Lib.hid her
 have HIz := Lib.hid (num_size HzL.out)
 have HLz : Hid ((z.map bval).length = (ints .u8 (List.replicate 32 0)).length) := Lib.hid (by rw [List.length_map, ints_length, HzL.out]; rfl)
 clear hz her HZL
 go_wp2_with (first | (refine wpList_load_blk rfl _ _ rfl (A) rfl _ _ _ _ H1.out Tryd.underlying23 HIT.out ?_) | (refine wpList_load_blk rfl _ _ rfl (A + 1) rfl _ _ _ _ H2.out Tryd.underlying23 HID.out ?_))
 refine HC.out.mono ?_
 rintro e w1 ⟨rfl, hb⟩
 have H1 := Lib.hid (ext_blk H1.out hb)
 have H2 := Lib.hid (ext_blk H2.out hb)
 have H3 := Lib.hid (ext_blk H3.out hb)
 have HE := Lib.hid (HE.out.trans hb)
 clear hb HC
 have HZ := Lib.hid (Blk.made w1 (ints .u8 (List.replicate 32 0)) 23)
 have HEA := Lib.hid (Ext.alloc w1 (.cells (ints .u8 (List.replicate 32 0)).toArray 23))
 go_upto_region 2 with (refine wpList_store_blk rfl _ _ _ rfl w1.heap.size (z.map bval) rfl rfl _ _ HZ.out HLz.out HIz.out (bval_one _) ?_; intro w2 hb2 hg2)
 have HX := Lib.hid (ext_grown HEA.out hg2 (Nat.le_refl _))
 have H1 := Lib.hid (ext_blk H1.out HX.out)
 have H2 := Lib.hid (ext_blk H2.out HX.out)
 have H3 := Lib.hid (ext_blk H3.out HX.out)
 have HE := Lib.hid (HE.out.trans HX.out)
 have HZB := Lib.hid hb2
 generalize w1.heap.size = Z at *
 clear hb2 hg2 HZ HEA HX
 by_cases hz : z = zer
 ·have HRE : Hid (er = 21) := Lib.hid (by rw [HER.out, if_pos hz])
  have HRL : Hid (wraL tb draw key = []) := Lib.hid (by rw [HWL.out, if_pos hz])
  clear hz HER HWL
  rw [HRE.out]
  go_wp2_with fail
  refine bodyPost_ret (res_two rfl _ _) rfl ?_
  exact ⟨_, by rw [← HERQ.out, HRE.out]; rfl, by rw [HRL.out]; exact Row1.nil _, HE.out⟩
 ·have HRE : Hid (er = 0) := Lib.hid (by rw [HER.out, if_neg hz])
  have HRL : Hid (wraL tb draw key = pubB draw ++ sealB (betK (pubB draw) z) (zB 12) key tb) := Lib.hid (by rw [HWL.out, if_neg hz])
  clear hz HER HWL
  rw [HRE.out]
  have HP := Lib.hid (LPub_num draw w2 HDL.out)
  have HeL : Hid ((pubB draw).length = 32) := Lib.hid (pubB_length _)
  obtain ⟨e, he⟩ : ∃ e, e = pubB draw := ⟨_, rfl⟩
  rw [← he] at HP HeL HRL
  clear he
  have HIe := Lib.hid (num_size HeL.out)
  have HLe : Hid ((e.map bval).length = (ints .u8 (List.replicate 32 0)).length) := Lib.hid (by rw [List.length_map, ints_length, HeL.out]; rfl)
  go_wp2_with (first | (refine wpList_load_blk rfl _ _ rfl (A + 1) rfl _ _ _ _ H2.out Tryd.underlying23 HID.out ?_))
  refine HP.out.mono ?_
  rintro ex w3 ⟨rfl, hb⟩
  have H1 := Lib.hid (ext_blk H1.out hb)
  have H3 := Lib.hid (ext_blk H3.out hb)
  have HZB := Lib.hid (ext_blk HZB.out hb)
  have HE := Lib.hid (HE.out.trans hb)
  clear hb HP H2
  have HZ := Lib.hid (Blk.made w3 (ints .u8 (List.replicate 32 0)) 23)
  have HEA := Lib.hid (Ext.alloc w3 (.cells (ints .u8 (List.replicate 32 0)).toArray 23))
  go_upto_region 5 with (refine wpList_store_blk rfl _ _ _ rfl w3.heap.size (e.map bval) rfl rfl _ _ HZ.out HLe.out HIe.out (bval_one _) ?_; intro w4 hb4 hg4)
  have HX := Lib.hid (ext_grown HEA.out hg4 (Nat.le_refl _))
  have H1 := Lib.hid (ext_blk H1.out HX.out)
  have H3 := Lib.hid (ext_blk H3.out HX.out)
  have HZB := Lib.hid (ext_blk HZB.out HX.out)
  have HE := Lib.hid (HE.out.trans HX.out)
  have HEB := Lib.hid hb4
  generalize w3.heap.size = E at *
  clear hb4 hg4 HZ HEA HX
  have B0 : Ext w4 w4.drew := Ext.drew _
  refine wp_region_held_drew (S := fun w' => Ext w4 w') (by kernel_rfl) B0 (fun hHeld => ?_)
  refine wpAnyH_take (i := 0) (v := .agg ((e).map bval).toArray) rfl (by kernel_rfl) (by kernel_rfl) (by kernel_rfl) (fun _ _ _ h => h) (yieldsIf_load_mid (by rfl) _ _ rfl E 0 rfl _ _ (fun w h => bl_range HEB.out h) Tryd.underlying23 rfl HIe.out) hHeld ?_
  simp only [Act.put, nrm]
  refine wpAnyH_take (i := 1) (v := .agg ((z).map bval).toArray) rfl (by kernel_rfl) (by kernel_rfl) (by kernel_rfl) (fun _ _ _ h => h) (yieldsIf_load_mid (by rfl) _ _ rfl Z 0 rfl _ _ (fun w h => bl_range HZB.out h) Tryd.underlying23 rfl HIz.out) hHeld ?_
  simp only [Act.put, nrm]
  refine wpAnyH_take (i := 3) (v := .agg ((zB 12).map bval).toArray) rfl (by kernel_rfl) (by kernel_rfl) (by kernel_rfl) (fun _ _ _ h => h) (yi_build _ _ _ _ wra_nonce (by rfl) rfl (by simp)) hHeld ?_
  simp only [Act.put, nrm]
  refine wpAnyH_take (i := 4) (v := .slice (some ⟨A + 1 + 1, 0, none⟩) 32 32) rfl (by kernel_rfl) (by kernel_rfl) (by kernel_rfl) (fun _ _ _ h => h) (yi_slice _ _ _ _ (.pointer (some ⟨A + 1 + 1, 0, none⟩)) (.slice (some ⟨A + 1 + 1, 0, none⟩) 32 32) none none (by rfl) rfl rfl rfl rfl (fun w => cut_whole Tryd.underlying23 Tryd.sizeOf5 (by omega) _ w)) hHeld ?_
  simp only [Act.put, nrm]
  refine wpAnyH_take (i := 5) (v := .slice (some ⟨A, 0, none⟩) 32 32) rfl (by kernel_rfl) (by kernel_rfl) (by kernel_rfl) (fun _ _ _ h => h) (yi_slice _ _ _ _ (.pointer (some ⟨A, 0, none⟩)) (.slice (some ⟨A, 0, none⟩) 32 32) none none (by rfl) rfl rfl rfl rfl (fun w => cut_whole Tryd.underlying23 Tryd.sizeOf5 (by omega) _ w)) hHeld ?_
  simp only [Act.put, nrm]
  refine wpAnyH_ready (rs := [2]) (by kernel_rfl) (by simp) (AllReadyH.cons rfl (fun K hK => ?_) AllReadyH.nil)
  go_simp
  refine (wbet_any e z w4.drew HeL.out HzL.out (HG.out.ext (HE.out.trans B0))).mono ?_
  rintro e m1 ⟨rfl, b1⟩
  have N1 : Ext w4 m1 := B0.trans b1
  refine hK.out _ _ N1 (fun hHeld => ?_)
  clear hK K
  try simp only [Act.put, nrm]
  refine wpAnyH_ready (rs := [6]) (by kernel_rfl) (by simp) (AllReadyH.cons rfl (fun K hK => ?_) AllReadyH.nil)
  go_simp
  refine (ASeal_num (betK e z) (zB 12) key tb _ _ m1 (betK_length _ _) (zB_length _) ((blk_row (n := 32) H3.out (by rw [List.length_map]; exact HKL.out) (by unfold maxLen; omega)).below N1) ((blk_row (n := 32) H1.out (by rw [List.length_map]; exact HTL.out) (by unfold maxLen; omega)).below N1) (by rw [HKL.out]; decide) (by rw [HTL.out]; decide)).mono ?_
  rintro e m2 ⟨x2, rfl, o2, b2⟩
  have r2 : Row1 m2 x2 ((sealB (betK e z) (zB 12) key tb).map bval) := Row1.of_own o2
  obtain ⟨a2, c2, hx2, _⟩ := id r2
  rw [show ((sealB (betK e z) (zB 12) key tb).map bval).length = 48 from by rw [List.length_map, sealB_length, HKL.out]] at hx2
  subst hx2
  have N2 : Ext w4 m2 := N1.trans b2
  refine hK.out _ _ N2 (fun hHeld => ?_)
  clear hK K
  try simp only [Act.put, nrm]
  refine wpAnyH_ready (rs := [7]) (by kernel_rfl) (by simp) (AllReadyH.cons rfl (fun K hK => ?_) AllReadyH.nil)
  go_simp
  refine hK.out _ _ N2 (fun hHeld => ?_)
  clear hK K
  try simp only [Act.put, nrm]
  refine wpAnyH_done (by kernel_rfl) ?_ _
  have HE5 := Lib.hid (HE.out.trans N2)
  have HS5 := Lib.hid r2
  have HEB5 := Lib.hid (ext_blk HEB.out N2)
  generalize m2 = w5 at HE5 HS5 HEB5 ⊢
  have HER := Lib.hid (blk_row (n := 32) HEB5.out (by rw [List.length_map, HeL.out]) (by unfold maxLen; omega))
  have HF : Hid ((e ++ sealB (betK e z) (zB 12) key tb).length ≤ 1099511627776) := Lib.hid (by rw [List.length_append, sealB_length, HeL.out, HKL.out]; decide)
  go_wp2_with fail
  refine (Concat_two _ _ e (sealB (betK e z) (zB 12) key tb) w5 HER.out HS5.out HF.out).mono ?_
  rintro ey w6 ⟨x, rfl, ho, hb⟩
  have HO := Lib.hid (Row1.of_own ho)
  have HE6 := Lib.hid (HE5.out.trans hb)
  clear ho hb
  go_wp2_with fail
  refine bodyPost_ret (res_two rfl _ _) rfl ?_
  exact ⟨_, by rw [← HERQ.out, HRE.out]; rfl, by rw [HRL.out]; exact HO.out, HE6.out⟩
theorem row_range {w : World} {a : Option Addr} {n cap : Nat} {vs : List Value} (h : Row1 w (.slice a n cap) vs) (hne : vs ≠ []) : ∃ b off, a = some ⟨b, off, none⟩ ∧ w.rangeAt b off vs := by
 obtain ⟨a', cap', he, _, _, _, h5⟩ := h
 obtain ⟨b, off, ha, _, hc⟩ := h5 hne
 injection he with e1 e2 e3
 subst e1
 refine ⟨b, off, ha, fun j v hj => ?_⟩
 have hjl : j < vs.length := by
  rcases Nat.lt_or_ge j vs.length with h' | h'
  ·exact h'
  ·rw [List.getElem?_eq_none h'] at hj; cases hj
 rw [hc j hjl, hj]
set_option maxRecDepth 100000 in
set_option maxHeartbeats 8000000 in
theorem WUnwrap_num (s b : List UInt8) (bv : Value) (w : World) (hs : s.length = 32) (hb : Row1 w bv (b.map bval)) (hG : GlobR w) :
  Calls Tryd.prog 8 #[.agg (s.map bval).toArray, bv] w fun e w' => e = .returned (.tuple #[.agg ((unwK s b).map bval).toArray, .int .i64 (unwE s b)]) ∧ Below w.heap.size w w' := by
 have HB := Lib.hid (boxes2 w (s.map bval) (ints .u8 (List.replicate 32 0)) 23 23)
 have HG := Lib.hid hG
 have HSL := Lib.hid hs
 have HIS := Lib.hid (num_size hs)
 have HB0 := Lib.hid hb
 obtain ⟨ab, capb, hbv, r1, r2, _⟩ := id hb
 rw [List.length_map] at hbv r1
 subst hbv
 unfold maxLen at r2
 have hb0 : (0 : Int) ≤ (b.length : Int) := Int.natCast_nonneg _
 have HNZ : Hid ((ints .u8 (List.replicate 32 0)) = zer.map bval) := Lib.hid rfl
 have HNI : Hid ((Tryd.prog.info? 23).map (·.size) = some (ints .u8 (List.replicate 32 0)).length) := Lib.hid (by rw [HNZ.out]; exact num_size zer_length)
 clear hs hb hG
 go_enter Tryd.func8, Tryd.ntmps8
 go_upto_region 1 with (fail)
 obtain ⟨H1, HX, HE⟩ := HB.out
 change Code.wp _ _ _ _ ((w.alloc (.cells (s.map bval).toArray 23)).alloc (.cells (ints .u8 (List.replicate 32 0)).toArray 23))
 generalize (w.alloc (.cells (s.map bval).toArray 23)).alloc (.cells (ints .u8 (List.replicate 32 0)).toArray 23) = wa at *
 obtain ⟨A, hA⟩ : ∃ A, A = w.heap.size := ⟨_, rfl⟩
 have HLA : Hid (w.heap.size ≤ A + 1) := Lib.hid (by omega)
 rw [← hA] at H1 HX ⊢
 have H1 := Lib.hid H1
 have HX := Lib.hid HX
 have HE : Hid (Ext w wa) := Lib.hid HE
 clear hA HB
 by_cases h80 : b.length = 80
 ·have HBL := Lib.hid h80
  have HBR := Lib.hid (HB0.out.below HE.out)
  rw [h80] at HBR r1 ⊢
  clear hb0 h80 HB0
  obtain ⟨vt, ht, st⟩ := row_upto Tryd.underlying25 Tryd.sizeOf5 HBR.out 32 (by rw [List.length_map, HBL.out]; omega)
  rw [← List.map_take] at ht
  have HeL : Hid ((b.take 32).length = 32) := Lib.hid (by rw [List.length_take, HBL.out]; rfl)
  obtain ⟨at1, ct, hvt, _⟩ := id ht
  rw [List.length_map, HeL.out] at hvt
  subst hvt
  obtain ⟨B1, o1, rfl, hr1⟩ := row_range ht (by
   intro h
   have h2 := congrArg List.length h
   rw [List.length_map, HeL.out] at h2
   exact absurd h2 (by decide))
  obtain ⟨vh, hh, sh⟩ := row_cut Tryd.underlying25 Tryd.sizeOf5 HBR.out 32 (by rw [List.length_map, HBL.out]; omega)
  obtain ⟨ah, nh, ch, rfl⟩ := row_form2 hh
  rw [← List.map_drop] at hh
  have HCR := Lib.hid hh
  have HSH : Hid (∀ w', (Instr.sliceAt 25 (.slice ab 80 capb) (some (.int .i64 32)) none none).run Tryd.prog w' = .ok (.slice ah nh ch) w') := Lib.hid sh
  have hs1 : ∀ w', (Instr.sliceAt 25 (.slice ab 80 capb) none (some (.int .i64 32)) none).run Tryd.prog w' = .ok (.slice (some ⟨B1, o1, none⟩) 32 ct) w' := st
  have hat := fun w' => run_array_at (P := Tryd.prog) Tryd.underlying23 (some ⟨B1, o1, none⟩) 32 ct (Nat.le_refl _) w'
  have HR1 := Lib.hid hr1
  have HDL : Hid ((b.drop 32).length = 48) := Lib.hid (by rw [List.length_drop, HBL.out])
  have HLOW : Hid (ladB s (b.take 32) = zer → unwE s b = 21 ∧ unwK s b = zer) := Lib.hid (fun h => ⟨unwE_low HBL.out h, unwK_low HBL.out h⟩)
  have HBAD : Hid (¬ ladB s (b.take 32) = zer → unwO s b = none → unwE s b = 10 ∧ unwK s b = zer) := Lib.hid (fun h h2 => ⟨unwE_bad HBL.out h h2, unwK_bad HBL.out h h2⟩)
  have HGOOD : Hid (∀ q, ¬ ladB s (b.take 32) = zer → unwO s b = some q → unwE s b = 0 ∧ unwK s b = q ∧ q.length = 32) := Lib.hid (fun q h h2 => ⟨unwE_good HBL.out h h2, unwK_good HBL.out h h2, unwO_length HBL.out h2⟩)
  have HO : Hid (unwO s b = openB (betK (b.take 32) (ladB s (b.take 32))) (zB 12) (b.drop 32) (pubB s)) := Lib.hid rfl
  obtain ⟨o, ho⟩ : ∃ o, o = unwO s b := ⟨_, rfl⟩
  rw [← ho] at HBAD HGOOD HO
  clear ht hh sh st hr1 ho
  have HC := Lib.hid (fun w' => LShared_num s (b.take 32) w' HSL.out HeL.out)
  have HzL : Hid ((ladB s (b.take 32)).length = 32) := Lib.hid (ladB_length _ _)
  have HER : Hid (shErr s (b.take 32) = if ladB s (b.take 32) = zer then 21 else 0) := Lib.hid rfl
  obtain ⟨er, her⟩ : ∃ er, er = shErr s (b.take 32) := ⟨_, rfl⟩
  rw [← her] at HC HER
  obtain ⟨z, hz⟩ : ∃ z, z = ladB s (b.take 32) := ⟨_, rfl⟩
  rw [← hz] at HC HzL HER HLOW HBAD HGOOD HO
  obtain ⟨e, he⟩ : ∃ e, e = b.take 32 := ⟨_, rfl⟩
  rw [← he] at HC HeL HR1 HO
  clear her hz he
  have HIe := Lib.hid (num_size HeL.out)
  have HIz := Lib.hid (num_size HzL.out)
  have HLe : Hid ((e.map bval).length = (ints .u8 (List.replicate 32 0)).length) := Lib.hid (by rw [List.length_map, ints_length, HeL.out]; rfl)
  have HLz : Hid ((z.map bval).length = (ints .u8 (List.replicate 32 0)).length) := Lib.hid (by rw [List.length_map, ints_length, HzL.out]; rfl)
  have HZ := Lib.hid (Blk.made wa (ints .u8 (List.replicate 32 0)) 23)
  have HEA := Lib.hid (Ext.alloc wa (.cells (ints .u8 (List.replicate 32 0)).toArray 23))
  go_upto_region 4 with (first | (refine wpList_load_mid rfl _ _ rfl B1 o1 rfl _ _ HR1.out Tryd.underlying23 rfl HIe.out ?_) | (refine wpList_store_blk rfl _ _ _ rfl wa.heap.size (e.map bval) rfl rfl _ _ HZ.out HLe.out HIe.out (bval_one _) ?_; intro w1 hb1 hg1))
  have HW := Lib.hid (ext_grown HEA.out hg1 (Nat.le_refl _))
  have H1 := Lib.hid (ext_blk H1.out HW.out)
  have HX := Lib.hid (ext_blk HX.out HW.out)
  have HBR := Lib.hid (HBR.out.below HW.out)
  have HCR := Lib.hid (HCR.out.below HW.out)
  have HE := Lib.hid (HE.out.trans HW.out)
  have HEB := Lib.hid hb1
  generalize wa.heap.size = E at *
  clear hb1 hg1 HZ HEA HW hs1 hat HR1 HLe
  go_wp2_with (first | (refine wpList_load_blk rfl _ _ rfl (A) rfl _ _ _ _ H1.out Tryd.underlying23 HIS.out ?_) | (refine wpList_load_blk rfl _ _ rfl (E) rfl _ _ _ _ HEB.out Tryd.underlying23 HIe.out ?_))
  refine (HC.out w1).mono ?_
  rintro ex w2 ⟨rfl, hb⟩
  have H1 := Lib.hid (ext_blk H1.out hb)
  have HX := Lib.hid (ext_blk HX.out hb)
  have HBR := Lib.hid (HBR.out.below hb)
  have HCR := Lib.hid (HCR.out.below hb)
  have HE := Lib.hid (HE.out.trans hb)
  have HEB := Lib.hid (ext_blk HEB.out hb)
  clear hb HC
  have HZ := Lib.hid (Blk.made w2 (ints .u8 (List.replicate 32 0)) 23)
  have HEA := Lib.hid (Ext.alloc w2 (.cells (ints .u8 (List.replicate 32 0)).toArray 23))
  go_upto_region 5 with (refine wpList_store_blk rfl _ _ _ rfl w2.heap.size (z.map bval) rfl rfl _ _ HZ.out HLz.out HIz.out (bval_one _) ?_; intro w3 hb3 hg3)
  have HW := Lib.hid (ext_grown HEA.out hg3 (Nat.le_refl _))
  have H1 := Lib.hid (ext_blk H1.out HW.out)
  have HX := Lib.hid (ext_blk HX.out HW.out)
  have HBR := Lib.hid (HBR.out.below HW.out)
  have HCR := Lib.hid (HCR.out.below HW.out)
  have HE := Lib.hid (HE.out.trans HW.out)
  have HEB := Lib.hid (ext_blk HEB.out HW.out)
  have HZB := Lib.hid hb3
  generalize w2.heap.size = Z at *
  clear hb3 hg3 HZ HEA HW HLz
  by_cases hz : z = zer
  ·have HRE : Hid (er = 21) := Lib.hid (by rw [HER.out, if_pos hz])
   have HQ := Lib.hid (HLOW.out hz)
   clear hz HER HLOW HBAD HGOOD
   rw [HRE.out]
   go_wp2_with (refine wpList_store_blk rfl _ _ _ rfl (A + 1) (ints .u8 (List.replicate 32 0)) rfl rfl _ _ HX.out rfl HNI.out (ints_one _ _) ?_; intro w8 hb7 hg7)
   refine bodyPost_ret (result_row_tmp (p := 4) (u := 5) (by rfl) _ (A + 1) _ _ _ (by rfl) hb7 Tryd.underlying23 rfl HNI.out) rfl ⟨by rw [HQ.out.1, HQ.out.2, HNZ.out]; rfl, ext_grown HE.out hg7 (by have := HLA.out; omega)⟩
  ·have HRE : Hid (er = 0) := Lib.hid (by rw [HER.out, if_neg hz])
   have HBAD := Lib.hid (HBAD.out hz)
   have HGOOD := Lib.hid (fun q => HGOOD.out q hz)
   clear hz HER HLOW
   rw [HRE.out]
   have HP := Lib.hid (LPub_num s w3 HSL.out)
   have HpL : Hid ((pubB s).length = 32) := Lib.hid (pubB_length _)
   obtain ⟨p, hp⟩ : ∃ p, p = pubB s := ⟨_, rfl⟩
   rw [← hp] at HP HpL HO
   clear hp
   have HIp := Lib.hid (num_size HpL.out)
   have HLp : Hid ((p.map bval).length = (ints .u8 (List.replicate 32 0)).length) := Lib.hid (by rw [List.length_map, ints_length, HpL.out]; rfl)
   go_wp2_with (first | (refine wpList_load_blk rfl _ _ rfl (A) rfl _ _ _ _ H1.out Tryd.underlying23 HIS.out ?_))
   refine HP.out.mono ?_
   rintro ex w4 ⟨rfl, hb⟩
   have HX := Lib.hid (ext_blk HX.out hb)
   have HBR := Lib.hid (HBR.out.below hb)
   have HCR := Lib.hid (HCR.out.below hb)
   have HE := Lib.hid (HE.out.trans hb)
   have HEB := Lib.hid (ext_blk HEB.out hb)
   have HZB := Lib.hid (ext_blk HZB.out hb)
   clear hb HP H1
   have HZ := Lib.hid (Blk.made w4 (ints .u8 (List.replicate 32 0)) 23)
   have HEA := Lib.hid (Ext.alloc w4 (.cells (ints .u8 (List.replicate 32 0)).toArray 23))
   go_upto_region 8 with (refine wpList_store_blk rfl _ _ _ rfl w4.heap.size (p.map bval) rfl rfl _ _ HZ.out HLp.out HIp.out (bval_one _) ?_; intro w5 hb5 hg5)
   have HW := Lib.hid (ext_grown HEA.out hg5 (Nat.le_refl _))
   have HX := Lib.hid (ext_blk HX.out HW.out)
   have HBR := Lib.hid (HBR.out.below HW.out)
   have HCR := Lib.hid (HCR.out.below HW.out)
   have HE := Lib.hid (HE.out.trans HW.out)
   have HEB := Lib.hid (ext_blk HEB.out HW.out)
   have HZB := Lib.hid (ext_blk HZB.out HW.out)
   have HTB := Lib.hid hb5
   generalize w4.heap.size = T at *
   clear hb5 hg5 HZ HEA HW HLp
   have rt := HCR.out
   have B0 : Ext w5 w5.drew := Ext.drew _
   refine wp_region_held_drew (S := fun w' => Ext w5 w') (by kernel_rfl) B0 (fun hHeld => ?_)
   have rt := rt.below (Ext.drew _)
   refine wpAnyH_take (i := 0) (v := .agg ((e).map bval).toArray) rfl (by kernel_rfl) (by kernel_rfl) (by kernel_rfl) (fun _ _ _ h => h) (yieldsIf_load_mid (by rfl) _ _ rfl E 0 rfl _ _ (fun w h => bl_range HEB.out h) Tryd.underlying23 rfl HIe.out) hHeld ?_
   simp only [Act.put, nrm]
   refine wpAnyH_take (i := 1) (v := .agg ((z).map bval).toArray) rfl (by kernel_rfl) (by kernel_rfl) (by kernel_rfl) (fun _ _ _ h => h) (yieldsIf_load_mid (by rfl) _ _ rfl Z 0 rfl _ _ (fun w h => bl_range HZB.out h) Tryd.underlying23 rfl HIz.out) hHeld ?_
   simp only [Act.put, nrm]
   refine wpAnyH_take (i := 3) (v := .agg ((zB 12).map bval).toArray) rfl (by kernel_rfl) (by kernel_rfl) (by kernel_rfl) (fun _ _ _ h => h) (yi_build _ _ _ _ wra_nonce (by rfl) rfl (by simp)) hHeld ?_
   simp only [Act.put, nrm]
   refine wpAnyH_take (i := 4) (v := .slice ab 80 capb) rfl (by kernel_rfl) (by kernel_rfl) (by kernel_rfl) (fun _ _ _ h => h) (yi_move _ (.slice ab 80 capb) (by rfl) rfl rfl) hHeld ?_
   simp only [Act.put, nrm]
   refine wpAnyH_take (i := 5) (v := .slice ah nh ch) rfl (by kernel_rfl) (by kernel_rfl) (by kernel_rfl) (fun _ _ _ h => h) (yi_slice _ _ _ _ (.slice ab 80 capb) (.slice ah nh ch) (some (.int .i64 32)) none (by rfl) rfl rfl rfl rfl HSH.out) hHeld ?_
   simp only [Act.put, nrm]
   refine wpAnyH_take (i := 6) (v := .slice (some ⟨T, 0, none⟩) 32 32) rfl (by kernel_rfl) (by kernel_rfl) (by kernel_rfl) (fun _ _ _ h => h) (yi_slice _ _ _ _ (.pointer (some ⟨T, 0, none⟩)) (.slice (some ⟨T, 0, none⟩) 32 32) none none (by rfl) rfl rfl rfl rfl (fun w => cut_whole Tryd.underlying23 Tryd.sizeOf5 (by omega) _ w)) hHeld ?_
   simp only [Act.put, nrm]
   refine wpAnyH_ready (rs := [2]) (by kernel_rfl) (by simp) (AllReadyH.cons rfl (fun K hK => ?_) AllReadyH.nil)
   go_simp
   refine (wbet_any e z w5.drew HeL.out HzL.out (HG.out.ext (HE.out.trans B0))).mono ?_
   rintro e m1 ⟨rfl, b1⟩
   have rt := rt.below b1
   have N1 : Ext w5 m1 := B0.trans b1
   refine hK.out _ _ N1 (fun hHeld => ?_)
   clear hK K
   try simp only [Act.put, nrm]
   refine wpAnyH_ready (rs := [7]) (by kernel_rfl) (by simp) (AllReadyH.cons rfl (fun K hK => ?_) AllReadyH.nil)
   go_simp
   refine (AOpen_num (betK e z) (zB 12) (b.drop 32) p _ _ m1 (betK_length _ _) (zB_length _) rt ((blk_row (n := 32) HTB.out (by rw [List.length_map]; exact HpL.out) (by unfold maxLen; omega)).below N1) (by rw [HDL.out]; decide) (by rw [HpL.out]; decide)).mono ?_
   rintro e m2 ⟨x2, rfl, r2, b2⟩
   have rt := rt.below b2
   have N2 : Ext w5 m2 := N1.trans b2
   rw [← HO.out] at r2 ⊢
   obtain ⟨a2, c2, hx2, _⟩ := id r2
   rw [List.length_map] at hx2
   subst hx2
   refine hK.out _ _ N2 (fun hHeld => ?_)
   clear hK K
   try simp only [Act.put, nrm]
   refine wpAnyH_take (i := 8) (v := .tuple #[.slice a2 ((o.getD []).length) c2, .int .i64 (aErr o)]) rfl (by kernel_rfl) (by kernel_rfl) (by kernel_rfl) (fun _ _ _ h => h) (yi_move _ (.tuple #[.slice a2 ((o.getD []).length) c2, .int .i64 (aErr o)]) (by rfl) rfl rfl) hHeld ?_
   simp only [Act.put, nrm]
   refine wpAnyH_take (i := 9) (v := .slice a2 ((o.getD []).length) c2) rfl (by kernel_rfl) (by kernel_rfl) (by kernel_rfl) (fun _ _ _ h => h) (yi_val (.slice a2 ((o.getD []).length) c2) (by rfl) (fun w _ => by go_simp)) hHeld ?_
   simp only [Act.put, nrm]
   refine wpAnyH_take (i := 10) (v := .int .i64 (aErr o)) rfl (by kernel_rfl) (by kernel_rfl) (by kernel_rfl) (fun _ _ _ h => h) (yi_val (.int .i64 (aErr o)) (by rfl) (fun w _ => by go_simp)) hHeld ?_
   simp only [Act.put, nrm]
   refine wpAnyH_take (i := 11) (v := .slice a2 ((o.getD []).length) c2) rfl (by kernel_rfl) (by kernel_rfl) (by kernel_rfl) (fun _ _ _ h => h) (yi_assign _ (.slice a2 ((o.getD []).length) c2) (by rfl) rfl rfl) hHeld ?_
   simp only [Act.put, nrm]
   refine wpAnyH_ready (rs := [12]) (by kernel_rfl) (by simp) (AllReadyH.cons rfl (fun K hK => ?_) AllReadyH.nil)
   go_simp
   refine hK.out _ _ N2 (fun hHeld => ?_)
   clear hK K
   try simp only [Act.put, nrm]
   refine wpAnyH_done (by kernel_rfl) ?_ _
   have HE6 := Lib.hid (HE.out.trans N2)
   have HX6 := Lib.hid (ext_blk HX.out N2)
   have HR6 := Lib.hid r2
   generalize a2 = ax at HR6 ⊢
   generalize c2 = cx at HR6 ⊢
   clear rt r2 HBR HCR HEB HZB HTB
   generalize m2 = w6 at HE6 HR6 HX6 ⊢
   cases o with
   | none =>
    have HQ := Lib.hid (HBAD.out rfl)
    have hae : aErr none = 10 := rfl
    rw [hae]
    clear hae
    go_wp2_with (refine wpList_store_blk rfl _ _ _ rfl (A + 1) (ints .u8 (List.replicate 32 0)) rfl rfl _ _ HX6.out rfl HNI.out (ints_one _ _) ?_; intro w8 hb7 hg7)
    refine bodyPost_ret (result_row_tmp (p := 4) (u := 5) (by rfl) _ (A + 1) _ _ _ (by rfl) hb7 Tryd.underlying23 rfl HNI.out) rfl ⟨by rw [HQ.out.1, HQ.out.2, HNZ.out]; rfl, ext_grown HE6.out hg7 (by have := HLA.out; omega)⟩
   | some q =>
    obtain ⟨q1, q2, q3⟩ := HGOOD.out q rfl
    have HQ : Hid (unwE s b = 0 ∧ unwK s b = q) := Lib.hid ⟨q1, q2⟩
    have HqL := Lib.hid q3
    have hae : aErr (some q) = 0 := rfl
    rw [hae]
    have HR7 : Hid (Row1 w6 (.slice ax (((some q).getD []).length) cx) (q.map bval)) := HR6
    have hql : ((some q).getD []).length = 32 := q3
    rw [hql] at HR7 ⊢
    clear q1 q2 q3 hae hql HR6
    obtain ⟨B2, o2, rfl, hr2⟩ := row_range HR7.out (by
     intro h
     have h2 := congrArg List.length h
     rw [List.length_map, HqL.out] at h2
     exact absurd h2 (by decide))
    have HR2 := Lib.hid hr2
    clear hr2
    have hat := fun w' => run_array_at (P := Tryd.prog) Tryd.underlying23 (some ⟨B2, o2, none⟩) 32 cx (Nat.le_refl _) w'
    have HIq := Lib.hid (num_size HqL.out)
    have HLq : Hid ((q.map bval).length = (ints .u8 (List.replicate 32 0)).length) := Lib.hid (by rw [List.length_map, ints_length, HqL.out]; rfl)
    go_wp2_with (first | (refine wpList_load_mid rfl _ _ rfl B2 o2 rfl _ _ HR2.out Tryd.underlying23 rfl HIq.out ?_) | (refine wpList_store_blk rfl _ _ _ rfl (A + 1) (q.map bval) rfl rfl _ _ HX6.out HLq.out HIq.out (bval_one _) ?_; intro w8 hb7 hg7))
    refine bodyPost_ret (result_row_tmp (p := 4) (u := 5) (by rfl) _ (A + 1) _ _ _ (by rfl) hb7 Tryd.underlying23 rfl HIq.out) rfl ⟨by rw [HQ.out.1, HQ.out.2]; rfl, ext_grown HE6.out hg7 (by have := HLA.out; omega)⟩
 ·have h80' : ¬ (b.length : Int) = 80 := by omega
  have HRE := Lib.hid (unwE_long (s := s) h80)
  have HRK := Lib.hid (unwK_long (s := s) h80)
  clear h80
  go_wp2_with (refine wpList_store_blk rfl _ _ _ rfl (A + 1) (ints .u8 (List.replicate 32 0)) rfl rfl _ _ HX.out rfl HNI.out (ints_one _ _) ?_; intro w8 hb7 hg7)
  refine bodyPost_ret (result_row_tmp (p := 4) (u := 5) (by rfl) _ (A + 1) _ _ _ (by rfl) hb7 Tryd.underlying23 rfl HNI.out) rfl ⟨by rw [HRE.out, HRK.out, HNZ.out]; rfl, ext_grown HE.out hg7 (by have := HLA.out; omega)⟩
theorem wra_num_any (n : Int) (w : World) : Calls Tryd.prog 9 #[.int .i64 n] w fun e w' => e = .returned (.int .i64 n) ∧ w = w' := by
 go_enter Tryd.func9, Tryd.ntmps9
 go_wp2_with fail
 go_ret
 exact ⟨rfl, rfl⟩
theorem wrap_pub (s draw key : List UInt8) (w : World) (hs : s.length = 32) (hd : draw.length = 32) (hk : key.length = 32) (hG : GlobR w) :
  Calls Tryd.prog 6 #[.agg ((pubB s).map bval).toArray, .agg (draw.map bval).toArray, .agg (key.map bval).toArray] w fun e w' => ∃ x, e = .returned (.tuple #[x, .int .i64 0]) ∧ Row1 w' x ((wraB (pubB s) draw key).map bval) ∧ Below w.heap.size w w' := by
 refine (WWrap_num (pubB s) draw key w (pubB_length _) hd hk hG).mono ?_
 rintro e w' ⟨x, he, hr, hb⟩
 rw [sh_pub hd hs] at he
 rw [wraL_pub key hs hd] at hr
 exact ⟨x, he, hr, hb⟩
theorem unwrap_pub (s draw key : List UInt8) (bv : Value) (w : World) (hs : s.length = 32) (hd : draw.length = 32) (hk : key.length = 32) (hb : Row1 w bv ((wraB (pubB s) draw key).map bval)) (hG : GlobR w) :
  Calls Tryd.prog 8 #[.agg (s.map bval).toArray, bv] w fun e w' => e = .returned (.tuple #[.agg (key.map bval).toArray, .int .i64 0]) ∧ Below w.heap.size w w' := by
 refine (WUnwrap_num s _ bv w hs hb hG).mono ?_
 rintro e w' ⟨he, hb⟩
 rw [unw_wrapK hs hd hk, unw_wrapE hs hd hk] at he
 exact ⟨he, hb⟩
set_option maxRecDepth 100000 in
set_option maxHeartbeats 4000000 in
theorem alive_any14 (w : World) (hG : GlobR w) : Calls Tryd.prog 5 #[] w fun e w' => e = .returned (.bool true) ∧ Below w.heap.size w w' := by
 have HG := Lib.hid hG
 have HSL : Hid ((smL 1).length = 32) := Lib.hid (smL_length _)
 have HDL : Hid ((smL 2).length = 32) := Lib.hid (smL_length _)
 have HKL : Hid ((smL 3).length = 32) := Lib.hid (smL_length _)
 clear hG
 have HIK := Lib.hid (num_size HKL.out)
 have HLK : Hid (((smL 3).map bval).length = (ints .u8 (List.replicate 32 0)).length) := Lib.hid (by rw [List.length_map, ints_length, HKL.out]; rfl)
 have HW0 := Lib.hid (fun w hG => wrap_pub (smL 1) (smL 2) (smL 3) w HSL.out HDL.out HKL.out hG)
 have HU0 := Lib.hid (fun bv w hb hG => unwrap_pub (smL 1) (smL 2) (smL 3) bv w HSL.out HDL.out HKL.out hb hG)
 have HPN := Lib.hid (fun w => LPub_num (smL 1) w HSL.out)
 have HBL := Lib.hid (wraB_length (tb := pubB (smL 1)) (draw := smL 2) HKL.out)
 generalize wraB (pubB (smL 1)) (smL 2) (smL 3) = b at *
 generalize pubB (smL 1) = p at *
 go_enter Tryd.func5, Tryd.ntmps5
 go_wp2_with fail
 refine (HPN.out w).mono ?_
 rintro e w1 ⟨rfl, hb⟩
 have HE := Lib.hid (show Ext w w1 from hb)
 clear hb HPN
 go_wp2_with fail
 refine (HW0.out w1 (HG.out.ext HE.out)).mono ?_
 rintro e w2 ⟨x, rfl, hr, hb⟩
 obtain ⟨a, c, hx, _⟩ := id hr
 rw [List.length_map, HBL.out] at hx
 subst hx
 have HR := Lib.hid hr
 have HE := Lib.hid (HE.out.trans hb)
 clear hb hr HW0
 go_wp2_with fail
 refine (HU0.out _ w2 HR.out (HG.out.ext HE.out)).mono ?_
 rintro e w3 ⟨rfl, hb⟩
 have HE := Lib.hid (HE.out.trans hb)
 clear hb HU0 HR
 have HZ := Lib.hid (Blk.made w3 (ints .u8 (List.replicate 32 0)) 23)
 have HEA := Lib.hid (Ext.alloc w3 (.cells (ints .u8 (List.replicate 32 0)).toArray 23))
 go_upto_region 3 with (refine wpList_store_blk rfl _ _ _ rfl w3.heap.size ((smL 3).map bval) rfl rfl _ _ HZ.out HLK.out HIK.out (bval_one _) ?_; intro w4 hb2 hg2)
 have HX := Lib.hid (ext_grown HEA.out hg2 (Nat.le_refl _))
 have HE := Lib.hid (HE.out.trans HX.out)
 have HKB := Lib.hid hb2
 generalize w3.heap.size = D at *
 clear hb2 hg2 HZ HEA HX
 go_wp2_with fail
 refine (wra_num_any 0 w4).mono ?_
 rintro e w5 ⟨rfl, rfl⟩
 go_wp2_with fail
 refine (wra_num_any 0 w4).mono ?_
 rintro e w5 ⟨rfl, rfl⟩
 go_wp2_with (first | (refine wpList_eql (by rfl) _ _ _ _ _ _ 32 _ (smL 3) (smL 3) true rfl (Or.inl ⟨rfl, decide_eq_true rfl⟩) Tryd.underlying23 Tryd.underlying5 num_info num_cells num_guard rfl rfl HKL.out HKL.out ?_) | (refine wpList_load_w (by rfl) _ _ rfl D rfl _ _ _ _ HKB.out Tryd.underlying23 HIK.out ?_))
 go_ret
 exact ⟨rfl, HE.out⟩
end Go.Proofs.YtimmnieopifcbaaDoor
