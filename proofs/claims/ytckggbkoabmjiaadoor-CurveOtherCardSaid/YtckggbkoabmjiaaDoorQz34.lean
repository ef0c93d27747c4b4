/- Texts that belong together, one behind the other. -/
import Derived.Lib.SlBytesConst
import Derived.KernelRfl
import Derived.Laws.ResultCell
import Derived.Deep.MidRow
import Derived.WalkKit
import Derived.WalkSpells
import Derived.WalkLawsBesides
import Derived.Lib.Hide
import Derived.Deep.QuietTactic
import Derived.BigQuiet
import Derived.Deep.RegionHeld3
import Derived.Deep.AppendLies
import Derived.OneCell
import Derived.Deep.Quiet
import Derived.OrdersHeld
import Derived.Deep.RegionHeld
import Derived.ChangeKeysEq
import Derived.Deep.CutRange
import Derived.Lib.AppendZeros
import Derived.ProofKit
import Derived.WalkMore
import Derived.Deep.RegionWith
import Derived.StillTailTactics
import Derived.Laws.Entries
import Derived.Great.BuildSlice
import Derived.ScopeJumps
import Derived.Control
import Derived.Laws.CopyOwn
import Derived.Laws.Slices
import Derived.Laws.Tables
import Derived.Lib.Mul64
import Derived.Laws.Bits64b
import Derived.Laws.Externs
import Derived.Laws.MakeOwn
import Derived.Test.YtckggbkoabmjiaaDoorQz01
import Derived.Test.YtckggbkoabmjiaaDoorQz02
import Derived.Test.YtckggbkoabmjiaaDoorQz03
import Derived.Test.YtckggbkoabmjiaaDoorQz09
import Derived.Test.YtckggbkoabmjiaaDoorQz12
import Derived.Test.YtckggbkoabmjiaaDoorQz14
import Derived.Test.YtckggbkoabmjiaaDoorQz16
import Derived.Test.YtckggbkoabmjiaaDoorQz17
import Derived.Test.YtckggbkoabmjiaaDoorQz22
import Derived.Test.YtckggbkoabmjiaaDoorQz25
import Derived.Test.YtckggbkoabmjiaaDoorQz26
import Derived.Test.YtckggbkoabmjiaaDoorQz32
import Derived.Test.YtckggbkoabmjiaaDoorQz33
namespace Go.Proofs.YtckggbkoabmjiaaDoor
set_option linter.unusedVariables false
set_option linter.unusedSimpArgs false
open Go.RowKit
set_option maxRecDepth 100000 in
set_option maxHeartbeats 8000000 in
theorem curveOther_any (sa sb : List UInt8) (v : Value) (m : List UInt8) (w : World) (ha : sa.length = 32) (hb : sb.length = 32) (ht : Row1 w v (m.map bval)) (hR : GlobRQ w) (hT : GlobT w) (hG : GlobC w) (hK : GlobK5 w) (hO : GlobO w) (hD : GlobD w) (hL : Glob w) (hX : GlobX w) (hY : GlobY w) : Calls Tryd.prog 8 #[.agg (sa.map bval).toArray, .agg (sb.map bval).toArray, v] w fun e w' => e = .returned (.bool true) ∧ Below w.heap.size w w' := by
 have HAL := Lib.hid ha
 have HBL := Lib.hid hb
 clear ha hb
 obtain ⟨tA, tC, hform, hlc, hcm, _⟩ := id ht
 rw [List.length_map] at hform hlc
 subst hform
 unfold maxLen at hcm
 have Ht := Lib.hid ht
 clear ht
 obtain ⟨iq, hq0, hq1, hq2⟩ := info_two (P := Tryd.prog) (t := 33) (z := .slice none 0 0) (n := 1) (by kernel_rfl)
 have HQ0 := Lib.hid hq0
 have HQ1 := Lib.hid hq1
 have HQ2 := Lib.hid hq2
 clear hq0 hq1 hq2
 have HGR := Lib.hid hR
 have HGT := Lib.hid hT
 have HGC := Lib.hid hG
 have HGK := Lib.hid hK
 have HGO := Lib.hid hO
 have HGD := Lib.hid hD
 have HGL := Lib.hid hL
 have HGX := Lib.hid hX
 have HGY := Lib.hid hY
 clear hR hT hG hK hO hD hL hX hY
 have HB := Lib.hid (boxes2 w (sa.map bval) (sb.map bval) 23 23)
 go_enter Tryd.func8, Tryd.ntmps8
 go_upto_region 1 with (fail)
 obtain ⟨H1, H2, HE⟩ := HB.out
 change Code.wp _ _ _ _ (World.alloc (World.alloc w (.cells (sa.map bval).toArray 23)) (.cells (sb.map bval).toArray 23))
 generalize (World.alloc (World.alloc w (.cells (sa.map bval).toArray 23)) (.cells (sb.map bval).toArray 23)) = wa at *
 obtain ⟨A, hA⟩ : ∃ A, A = w.heap.size := ⟨_, rfl⟩
 have HAW : Hid (w.heap.size ≤ A) := Lib.hid (by omega)
 rw [← hA] at H1 H2 ⊢
 have H1 := Lib.hid H1
 have H2 := Lib.hid H2
 have HE : Hid (Ext w wa) := Lib.hid HE
 clear hA HB
 go_wp2_with fail
 refine (alive_any13 _ (HGR.out.ext HE.out) (HGT.out.ext HE.out) (HGC.out.ext HE.out)).mono ?_
 rintro e w5 ⟨rfl, hb⟩
 have H1 := Lib.hid (ext_blk H1.out hb)
 have H2 := Lib.hid (ext_blk H2.out hb)
 have HE := Lib.hid (HE.out.trans hb)
 clear hb
 generalize w5 = w6 at *
 by_cases h3 : 300 < m.length
 ·have h3' : (300 : Int) < (m.length : Int) := by omega
  go_wp2_with fail
  go_ret
  exact ⟨rfl, HE.out⟩
 ·have h3' : (m.length : Int) ≤ 300 := by omega
  have d3 : decide (300 < (m.length : Int)) = false := decide_eq_false (by omega)
  have HLS : Hid (m.length ≤ 300) := Lib.hid (by omega)
  clear h3
  go_wp2_with (first | (refine wpList_load_mid rfl _ _ rfl A 0 rfl _ _ (H1.out.range) Tryd.underlying23 rfl (num_size HAL.out) ?_))
  refine (csign_one sa m _ _ HAL.out (Ht.out.below HE.out) (by have := HLS.out; omega) (HGR.out.ext HE.out) (HGT.out.ext HE.out) (HGC.out.ext HE.out)).mono ?_
  rintro e wp ⟨rfl, hb⟩
  have H1 := Lib.hid (ext_blk H1.out hb)
  have H2 := Lib.hid (ext_blk H2.out hb)
  have HE := Lib.hid (HE.out.trans hb)
  clear hb
  have HLgb := Lib.hid (edSign_length sa m)
  obtain ⟨gb, hnm⟩ : ∃ k, k = edSign sa m := ⟨_, rfl⟩
  rw [← hnm] at HLgb ⊢
  have HNgb := Lib.hid hnm
  clear hnm
  have HZ := Lib.hid (Blk.made wp (ints .u8 (List.replicate 64 0)) 30)
  have HEA := Lib.hid (Ext.alloc wp (.cells (ints .u8 (List.replicate 64 0)).toArray 30))
  have HL : Hid ((gb.map bval).length = (ints .u8 (List.replicate 64 0)).length) := Lib.hid (by rw [List.length_map, HLgb.out]; rfl)
  go_upto_region 5 with (refine wpList_store_blk rfl _ _ _ rfl wp.heap.size (gb.map bval) rfl rfl _ _ HZ.out HL.out (sig_size HLgb.out) (bval_one _) ?_; intro w7 hb hg)
  have HX := Lib.hid (ext_grown HEA.out hg (Nat.le_refl _))
  obtain ⟨pg, hT⟩ : ∃ T, T = wp.heap.size := ⟨_, rfl⟩
  rw [← hT] at hb ⊢
  clear hT
  have H1 := Lib.hid (ext_blk H1.out HX.out)
  have H2 := Lib.hid (ext_blk H2.out HX.out)
  have HE := Lib.hid (HE.out.trans HX.out)
  have HVg := Lib.hid hb
  clear hb hg HX HZ HEA HL
  generalize w7 = wg at *
  go_wp2_with (first | (refine wpList_load_mid rfl _ _ rfl (A + 1) 0 rfl _ _ (H2.out.range) Tryd.underlying23 rfl (num_size HBL.out) ?_))
  refine (CPub_num sb _ HBL.out (HGR.out.ext HE.out) (HGC.out.ext HE.out)).mono ?_
  rintro e wq ⟨rfl, hb⟩
  have H1 := Lib.hid (ext_blk H1.out hb)
  have H2 := Lib.hid (ext_blk H2.out hb)
  have HVg := Lib.hid (ext_blk HVg.out hb)
  have HE := Lib.hid (HE.out.trans hb)
  clear hb
  have HLkb := Lib.hid (edPub_length sb)
  obtain ⟨kb, hnm⟩ : ∃ k, k = edPub sb := ⟨_, rfl⟩
  rw [← hnm] at HLkb ⊢
  have HNkb := Lib.hid hnm
  clear hnm
  have HZ := Lib.hid (Blk.made wq (ints .u8 (List.replicate 32 0)) 23)
  have HEA := Lib.hid (Ext.alloc wq (.cells (ints .u8 (List.replicate 32 0)).toArray 23))
  have HL : Hid ((kb.map bval).length = (ints .u8 (List.replicate 32 0)).length) := Lib.hid (by rw [List.length_map, HLkb.out]; rfl)
  go_upto_region 6 with (refine wpList_store_blk rfl _ _ _ rfl wq.heap.size (kb.map bval) rfl rfl _ _ HZ.out HL.out (num_size HLkb.out) (bval_one _) ?_; intro w7 hb hg)
  have HX := Lib.hid (ext_grown HEA.out hg (Nat.le_refl _))
  obtain ⟨pk, hT⟩ : ∃ T, T = wq.heap.size := ⟨_, rfl⟩
  rw [← hT] at hb ⊢
  clear hT
  have H1 := Lib.hid (ext_blk H1.out HX.out)
  have H2 := Lib.hid (ext_blk H2.out HX.out)
  have HVg := Lib.hid (ext_blk HVg.out HX.out)
  have HE := Lib.hid (HE.out.trans HX.out)
  have HVk := Lib.hid hb
  clear hb hg HX HZ HEA HL
  generalize w7 = wk at *
  obtain ⟨vb, hvb⟩ : ∃ k, verB kb gb m = k := ⟨_, rfl⟩
  have HVB := Lib.hid hvb
  clear hvb
  go_wp2_with fail
  have B0 : Ext wk wk.drew := Ext.drew _
  refine wp_region_held_drew (S := fun w' => Ext wk w') (by kernel_rfl) B0 (fun hHeld => ?_)
  refine wpAnyH_take (i := 0) (v := .agg ((kb).map bval).toArray) rfl (by kernel_rfl) (by kernel_rfl) (by kernel_rfl) (fun _ _ _ h => h) (yieldsIf_load_mid (by rfl) _ _ rfl pk 0 rfl _ _ (fun w h => bl_range HVk.out h) Tryd.underlying23 rfl (num_size HLkb.out)) hHeld ?_
  simp only [Act.put, nrm]
  refine wpAnyH_take (i := 1) (v := .agg ((gb).map bval).toArray) rfl (by kernel_rfl) (by kernel_rfl) (by kernel_rfl) (fun _ _ _ h => h) (yieldsIf_load_mid (by rfl) _ _ rfl pg 0 rfl _ _ (fun w h => bl_range HVg.out h) Tryd.underlying30 rfl (sig_size HLgb.out)) hHeld ?_
  simp only [Act.put, nrm]
  refine wpAnyH_take (i := 2) (v := .slice tA m.length tC) rfl (by kernel_rfl) (by kernel_rfl) (by kernel_rfl) (fun _ _ _ h => h) (yi_move _ (.slice tA m.length tC) (by rfl) rfl rfl) hHeld ?_
  simp only [Act.put, nrm]
  refine wpAnyH_take (i := 5) (v := .agg ((kb).map bval).toArray) rfl (by kernel_rfl) (by kernel_rfl) (by kernel_rfl) (fun _ _ _ h => h) (yieldsIf_load_mid (by rfl) _ _ rfl pk 0 rfl _ _ (fun w h => bl_range HVk.out h) Tryd.underlying23 rfl (num_size HLkb.out)) hHeld ?_
  simp only [Act.put, nrm]
  refine wpAnyH_take (i := 6) (v := .agg ((gb).map bval).toArray) rfl (by kernel_rfl) (by kernel_rfl) (by kernel_rfl) (fun _ _ _ h => h) (yieldsIf_load_mid (by rfl) _ _ rfl pg 0 rfl _ _ (fun w h => bl_range HVg.out h) Tryd.underlying30 rfl (sig_size HLgb.out)) hHeld ?_
  simp only [Act.put, nrm]
  refine wpAnyH_take (i := 7) (v := .slice tA m.length tC) rfl (by kernel_rfl) (by kernel_rfl) (by kernel_rfl) (fun _ _ _ h => h) (yi_move _ (.slice tA m.length tC) (by rfl) rfl rfl) hHeld ?_
  simp only [Act.put, nrm]
  refine wpAnyH_ready (rs := [3]) (by kernel_rfl) (by simp) (AllReadyH.cons rfl (fun K hK => ?_) AllReadyH.nil)
  refine step_wp (by rfl) ?_
  refine wp_buildSlice_d (some 28) _ _ _ _ rfl rfl #[.slice tA m.length tC] iq (.slice none 0 0) Tryd.underlying27 HQ0.out HQ1.out (by rw [HQ2.out]; decide) (by rw [HQ2.out]; decide) (by rw [HQ2.out]; kernel_rfl) ?_
  obtain ⟨m1, hm1⟩ : ∃ wNew, wNew = World.alloc wk.drew (.cells #[.slice tA m.length tC] 33) := ⟨_, rfl⟩
  rw [← hm1]
  have b1 : Ext wk.drew m1 := by rw [hm1]; exact Ext.alloc _ _
  obtain ⟨g1, hg1⟩ : ∃ gNew, gNew = (wk.drew).heap.size := ⟨_, rfl⟩
  rw [← hg1]
  have r1 : Row1 m1 (.slice (some ⟨g1, 0, none⟩) 1 1) [.slice tA m.length tC] := by rw [hm1, hg1]; exact Row1.made _ _ _ _ _ _ rfl rfl rfl (by unfold maxLen; omega)
  clear hm1 hg1
  have N1 : Ext wk m1 := B0.trans b1
  refine hK.out _ _ N1 (fun hHeld => ?_)
  clear hK K
  try simp only [Act.put, nrm]
  refine wpAnyH_ready (rs := [4]) (by kernel_rfl) (by simp) (AllReadyH.cons rfl (fun K hK => ?_) AllReadyH.nil)
  go_simp
  have hve := cver_rows kb gb m _ [m] _ HLkb.out HLgb.out (rowB1 r1 ((Ht.out.below HE.out).below N1)) (by simp) (by have := HLS.out; omega) (by simp) (HGR.out.ext (HE.out.trans N1)) (HGT.out.ext (HE.out.trans N1)) (HGC.out.ext (HE.out.trans N1))
  rw [HVB.out] at hve
  refine (hve).mono ?_
  rintro e m2 ⟨rfl, b2⟩
  have r1 := r1.below b2
  have N2 : Ext wk m2 := N1.trans b2
  refine hK.out _ _ N2 (fun hHeld => ?_)
  clear hK K
  try simp only [Act.put, nrm]
  refine wpAnyH_ready (rs := [8]) (by kernel_rfl) (by simp) (AllReadyH.cons rfl (fun K hK => ?_) AllReadyH.nil)
  go_simp
  have hrv := rverify_f kb gb m _ _ HLkb.out HLgb.out ((Ht.out.below HE.out).below N2) (by have := HLS.out; omega) (HGK.out.ext (HE.out.trans N2)) (HGO.out.ext (HE.out.trans N2)) (HGD.out.ext (HE.out.trans N2)) (HGL.out.ext (HE.out.trans N2)) (HGX.out.ext (HE.out.trans N2)) (HGY.out.ext (HE.out.trans N2))
  rw [HVB.out] at hrv
  refine (hrv).mono ?_
  rintro e m3 ⟨rfl, b3⟩
  have r1 := r1.below b3
  have N3 : Ext wk m3 := N2.trans b3
  refine hK.out _ _ N3 (fun hHeld => ?_)
  clear hK K
  try simp only [Act.put, nrm]
  refine wpAnyH_take (i := 9) (v := .bool true) rfl (by kernel_rfl) (by kernel_rfl) (by kernel_rfl) (fun _ _ _ h => h) (yi_eqb _ _ _ _ vb vb true (by simp) Tryd.underlying4 (by rfl) rfl rfl rfl) hHeld ?_
  simp only [Act.put, nrm]
  refine wpAnyH_ready (rs := [10]) (by kernel_rfl) (by simp) (AllReadyH.cons rfl (fun K hK => ?_) AllReadyH.nil)
  go_simp
  refine hK.out _ _ N3 (fun hHeld => ?_)
  clear hK K
  try simp only [Act.put, nrm]
  refine wpAnyH_done (by kernel_rfl) ?_ _
  go_wp2_with fail
  go_ret
  exact ⟨rfl, HE.out.trans N3⟩
end Go.Proofs.YtckggbkoabmjiaaDoor
