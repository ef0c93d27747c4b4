/- Texts that belong together, one behind the other. -/
import Derived.KernelRfl
import Derived.Laws.ResultCell
import Derived.Deep.MidRow
import Derived.WalkKit
import Derived.WalkSpells
import Derived.WalkLawsBesides
import Derived.Lib.Hide
import Derived.Deep.QuietTactic
import Derived.BigQuiet
import Derived.Deep.RegionHeld3
import Derived.Deep.AppendLies
import Derived.OneCell
import Derived.Deep.Quiet
import Derived.OrdersHeld
import Derived.Deep.RegionHeld
import Derived.ChangeKeysEq
import Derived.Deep.CutRange
import Derived.Laws.Tables
import Derived.Great.BuildSlice
import Derived.Lib.Mul64
import Derived.Laws.Bits64b
import Derived.Laws.Externs
import Derived.Laws.Slices
import Derived.Deep.RegionWith
import Derived.StillTailTactics
import Derived.ProofKit
import Derived.Laws.CopyOwn
import Derived.Laws.MakeOwn
import Derived.Lib.ConvBytes
import Derived.Laws.AppendOwn
import Derived.WalkMore
import Derived.ScopeJumps
import Derived.Control
import Derived.Laws.Entries
import Derived.Laws.OwnMore
import Derived.Deep.Onto
import Derived.Lib.AppendZeros
import Derived.Deep.LoopGhost
import Derived.Test.YtimmnieopifcbaaDoorQz01
import Derived.Test.YtimmnieopifcbaaDoorQz02
import Derived.Test.YtimmnieopifcbaaDoorQz04
import Derived.Test.YtimmnieopifcbaaDoorQz07
namespace Go.Proofs.YtimmnieopifcbaaDoor
set_option linter.unusedVariables false
set_option linter.unusedSimpArgs false
open Go.RowKit
set_option maxRecDepth 100000 in
set_option maxHeartbeats 8000000 in
theorem wrapBack_any (s d k : List UInt8) (w : World) (hs : s.length = 32) (hd : d.length = 32) (hk : k.length = 32) (hG : GlobR w) : Calls Tryd.prog 3 #[.agg (s.map bval).toArray, .agg (d.map bval).toArray, .agg (k.map bval).toArray] w fun e w' => e = .returned (.bool true) ∧ Below w.heap.size w w' := by
 have HG := Lib.hid hG
 have HSL := Lib.hid hs
 have HDL := Lib.hid hd
 have HKL := Lib.hid hk
 clear hs hd hk hG
 have HW0 := Lib.hid (fun w hG => wrap_pub s d k w HSL.out HDL.out HKL.out hG)
 have HU0 := Lib.hid (fun bv w hb hG => unwrap_pub s d k bv w HSL.out HDL.out HKL.out hb hG)
 have HPN := Lib.hid (fun w => LPub_num s w HSL.out)
 have HPL := Lib.hid (pubB_length s)
 have HxL := Lib.hid (wraB_length (tb := pubB s) (draw := d) HKL.out)
 generalize wraB (pubB s) d k = x at *
 generalize pubB s = p at *
 have HB := Lib.hid (boxes3 w (s.map bval) (d.map bval) (k.map bval) 23 23 23)
 go_enter Tryd.func3, Tryd.ntmps3
 go_upto_region 1 with (fail)
 obtain ⟨H1, H2, H3, HE⟩ := HB.out
 change Code.wp _ _ _ _ ((((w.alloc (.cells (s.map bval).toArray 23)).alloc (.cells (d.map bval).toArray 23)).alloc (.cells (k.map bval).toArray 23)))
 generalize (((w.alloc (.cells (s.map bval).toArray 23)).alloc (.cells (d.map bval).toArray 23)).alloc (.cells (k.map bval).toArray 23)) = wa at *
 obtain ⟨A, hA⟩ : ∃ A, A = w.heap.size := ⟨_, rfl⟩
 rw [← hA] at H1 H2 H3 ⊢
 have H1 := Lib.hid H1
 have H2 := Lib.hid H2
 have H3 := Lib.hid H3
 have HE : Hid (Ext w wa) := Lib.hid HE
 clear hA HB
 have HIs := Lib.hid (num_size HSL.out)
 have HId := Lib.hid (num_size HDL.out)
 have HIk := Lib.hid (num_size HKL.out)
 have HZk : Hid ((k.map bval).length = (ints .u8 (List.replicate 32 0)).length) := Lib.hid (by rw [List.length_map, ints_length, HKL.out]; rfl)
 go_wp2_with fail
 refine (alive_any14 wa (HG.out.ext HE.out)).mono ?_
 rintro e wb ⟨rfl, hb⟩
 have H1 := Lib.hid (ext_blk H1.out hb)
 have H2 := Lib.hid (ext_blk H2.out hb)
 have H3 := Lib.hid (ext_blk H3.out hb)
 have HE := Lib.hid (HE.out.trans hb)
 clear hb
 go_upto_region 2 with (fail)
 have B0 : Ext wb wb.drew := Ext.drew _
 refine wp_region_held_drew (S := fun w' => Ext wb w') (by kernel_rfl) B0 (fun hHeld => ?_)
 refine wpAnyH_take (i := 0) (v := .agg ((s).map bval).toArray) rfl (by kernel_rfl) (by kernel_rfl) (by kernel_rfl) (fun _ _ _ h => h) (yieldsIf_load_mid (by rfl) _ _ rfl A 0 rfl _ _ (fun w h => bl_range H1.out h) Tryd.underlying23 rfl HIs.out) hHeld ?_
 simp only [Act.put, nrm]
 refine wpAnyH_take (i := 2) (v := .agg ((d).map bval).toArray) rfl (by kernel_rfl) (by kernel_rfl) (by kernel_rfl) (fun _ _ _ h => h) (yieldsIf_load_mid (by rfl) _ _ rfl (A + 1) 0 rfl _ _ (fun w h => bl_range H2.out h) Tryd.underlying23 rfl HId.out) hHeld ?_
 simp only [Act.put, nrm]
 refine wpAnyH_take (i := 3) (v := .agg ((k).map bval).toArray) rfl (by kernel_rfl) (by kernel_rfl) (by kernel_rfl) (fun _ _ _ h => h) (yieldsIf_load_mid (by rfl) _ _ rfl (A + 1 + 1) 0 rfl _ _ (fun w h => bl_range H3.out h) Tryd.underlying23 rfl HIk.out) hHeld ?_
 simp only [Act.put, nrm]
 refine wpAnyH_ready (rs := [1]) (by kernel_rfl) (by simp) (AllReadyH.cons rfl (fun K hK => ?_) AllReadyH.nil)
 go_simp
 refine (HPN.out wb.drew).mono ?_
 rintro e m1 ⟨rfl, b1⟩
 have N1 : Ext wb m1 := B0.trans b1
 refine hK.out _ _ N1 (fun hHeld => ?_)
 clear hK K
 try simp only [Act.put, nrm]
 refine wpAnyH_ready (rs := [4]) (by kernel_rfl) (by simp) (AllReadyH.cons rfl (fun K hK => ?_) AllReadyH.nil)
 go_simp
 refine (HW0.out m1 (HG.out.ext (HE.out.trans N1))).mono ?_
 rintro e m2 ⟨x2, rfl, r2, b2⟩
 have N2 : Ext wb m2 := N1.trans b2
 obtain ⟨a2, c2, hx2, _⟩ := id r2
 rw [List.length_map, HxL.out] at hx2
 subst hx2
 refine hK.out _ _ N2 (fun hHeld => ?_)
 clear hK K
 try simp only [Act.put, nrm]
 refine wpAnyH_take (i := 5) (v := .tuple #[.slice a2 80 c2, .int .i64 0]) rfl (by kernel_rfl) (by kernel_rfl) (by kernel_rfl) (fun _ _ _ h => h) (yi_move _ (.tuple #[.slice a2 80 c2, .int .i64 0]) (by rfl) rfl rfl) hHeld ?_
 simp only [Act.put, nrm]
 refine wpAnyH_take (i := 6) (v := .slice a2 80 c2) rfl (by kernel_rfl) (by kernel_rfl) (by kernel_rfl) (fun _ _ _ h => h) (yi_val (.slice a2 80 c2) (by rfl) (fun w _ => by go_simp)) hHeld ?_
 simp only [Act.put, nrm]
 refine wpAnyH_take (i := 7) (v := .int .i64 0) rfl (by kernel_rfl) (by kernel_rfl) (by kernel_rfl) (fun _ _ _ h => h) (yi_val (.int .i64 0) (by rfl) (fun w _ => by go_simp)) hHeld ?_
 simp only [Act.put, nrm]
 refine wpAnyH_take (i := 8) (v := .slice a2 80 c2) rfl (by kernel_rfl) (by kernel_rfl) (by kernel_rfl) (fun _ _ _ h => h) (yi_assign _ (.slice a2 80 c2) (by rfl) rfl rfl) hHeld ?_
 simp only [Act.put, nrm]
 refine wpAnyH_ready (rs := [9]) (by kernel_rfl) (by simp) (AllReadyH.cons rfl (fun K hK => ?_) AllReadyH.nil)
 go_simp
 refine hK.out _ _ N2 (fun hHeld => ?_)
 clear hK K
 try simp only [Act.put, nrm]
 refine wpAnyH_done (by kernel_rfl) ?_ _
 have HE := Lib.hid (HE.out.trans N2)
 have HR := Lib.hid r2
 have H1 := Lib.hid (ext_blk H1.out N2)
 have H2 := Lib.hid (ext_blk H2.out N2)
 have H3 := Lib.hid (ext_blk H3.out N2)
 generalize a2 = ax at HR ⊢
 generalize c2 = cx at HR ⊢
 clear r2
 generalize m2 = wd at H1 H2 H3 HE HR ⊢
 go_wp2_with (first | (refine wpList_load_blk rfl _ _ rfl (A) rfl _ _ _ _ H1.out Tryd.underlying23 HIs.out ?_))
 refine (HU0.out _ wd HR.out (HG.out.ext HE.out)).mono ?_
 rintro e we ⟨rfl, hb⟩
 have H1 := Lib.hid (ext_blk H1.out hb)
 have H2 := Lib.hid (ext_blk H2.out hb)
 have H3 := Lib.hid (ext_blk H3.out hb)
 have HE := Lib.hid (HE.out.trans hb)
 clear hb
 have HZ := Lib.hid (Blk.made we (ints .u8 (List.replicate 32 0)) 23)
 have HEA := Lib.hid (Ext.alloc we (.cells (ints .u8 (List.replicate 32 0)).toArray 23))
 go_upto_region 4 with (refine wpList_store_blk rfl _ _ _ rfl we.heap.size (k.map bval) rfl rfl _ _ HZ.out HZk.out HIk.out (bval_one _) ?_; intro wf hb2 hg2)
 have HX := Lib.hid (ext_grown HEA.out hg2 (Nat.le_refl _))
 have H1 := Lib.hid (ext_blk H1.out HX.out)
 have H2 := Lib.hid (ext_blk H2.out HX.out)
 have H3 := Lib.hid (ext_blk H3.out HX.out)
 have HE := Lib.hid (HE.out.trans HX.out)
 have HD := Lib.hid hb2
 generalize we.heap.size = D at *
 clear hb2 hg2 HZ HEA HX
 go_wp2_with fail
 refine (wra_num_any 0 wf).mono ?_
 rintro e wq ⟨rfl, rfl⟩
 go_wp2_with fail
 refine (wra_num_any 0 wf).mono ?_
 rintro e wq ⟨rfl, rfl⟩
 go_wp2_with (first | (refine wpList_eql (by rfl) _ _ _ _ _ _ 32 _ k k true rfl (Or.inl ⟨rfl, decide_eq_true rfl⟩) Tryd.underlying23 Tryd.underlying5 num_info num_cells num_guard rfl rfl HKL.out HKL.out ?_) | (refine wpList_load_w (by rfl) _ _ rfl (D) rfl _ _ _ _ HD.out Tryd.underlying23 HIk.out ?_) | (refine wpList_load_w (by rfl) _ _ rfl (A + 1 + 1) rfl _ _ _ _ H3.out Tryd.underlying23 HIk.out ?_))
 go_ret
 exact ⟨rfl, HE.out⟩
end Go.Proofs.YtimmnieopifcbaaDoor
