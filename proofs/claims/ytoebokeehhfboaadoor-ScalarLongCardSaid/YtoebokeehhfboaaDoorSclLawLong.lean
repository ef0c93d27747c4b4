/- The walk of ScalarLong. Each theorem names its own conditions. -/
import Derived.Test.YtoebokeehhfboaaDoorSclLongM
import Derived.Deep.CutRange
namespace Go.Proofs.YtoebokeehhfboaaDoor
open Go.RowKit
set_option linter.unusedVariables false
set_option linter.unusedSimpArgs false

set_option maxRecDepth 100000 in
set_option maxHeartbeats 8000000 in
theorem scalarLong_any (v u : Value) (l m : List UInt8) (x : UInt8) (w : World) (hv : Row1 w v (l.map bval)) (hu : Row1 w u (m.map bval)) (hG : GlobT w) :
    Calls Tryd.prog 7 #[v, u, .int .u8 (x.toNat : Int)] w fun e w' => e = .returned (.bool true) ∧ Below w.heap.size w w' := by
  obtain ⟨i0, hi, hz0, hz1, hz2⟩ := info_parts Tryd.info5
  have HGT := Lib.hid hG
  have HRW := Lib.hid hv
  have HRU := Lib.hid hu
  obtain ⟨a, cap, hva, r1, r2, r3, r4⟩ := id hv
  obtain ⟨a', cap', hva', r1', r2', r3', r4'⟩ := id hu
  rw [List.length_map] at hva r1 hva' r1'
  unfold maxLen at r2 r2'
  have HVA := Lib.hid hva
  have HVA2 := Lib.hid hva'
  have HI0 := Lib.hid hi
  have HZ0 := Lib.hid hz0
  have HZ1 := Lib.hid hz1
  have HZ2 := Lib.hid hz2
  clear hG hv r3 r4 hva hu r3' r4' hva'
  go_enter Tryd.func7, Tryd.ntmps7
  have HE : Hid (Ext w w) := Lib.hid (Ext.refl w)
  go_wp2_with fail
  refine (alive_any _ (HGT.out.ext HE.out)).mono ?_
  rintro e wa ⟨rfl, hb⟩
  have HE := Lib.hid (HE.out.trans hb)
  clear hb
  have hva := HVA.out
  have hva2 := HVA2.out
  subst hva
  subst hva2
  by_cases h64 : l.length = 64
  · by_cases h100 : m.length ≤ 100
    · have hd1 : ((l.length : Int) != 64) = false := by simp; omega
      have hd2 : (m.length : Int) ≤ 100 := by omega
      have HLL : Hid (l.length = 64) := Lib.hid h64
      have HML : Hid (m.length ≤ 100) := Lib.hid h100
      clear h64 h100
      have HBX := Lib.hid (boxes2 wa (qL.map bval) (ints .u8 (List.replicate 32 0)) 5 25)
      have hwa : w.heap.size ≤ wa.heap.size := HE.out.size
      go_upto_region 6 with (fail)
      change Code.wp _ _ _ _ ((wa.alloc (.cells (qL.map bval).toArray 5)).alloc (.cells (ints .u8 (List.replicate 32 0)).toArray 25))
      generalize (wa.alloc (.cells (qL.map bval).toArray 5)).alloc (.cells (ints .u8 (List.replicate 32 0)).toArray 25) = w0 at *
      obtain ⟨b1, b2, b3⟩ := HBX.out
      have HE := Lib.hid (HE.out.trans b3)
      obtain ⟨B, hB⟩ : ∃ B, B = wa.heap.size := ⟨_, rfl⟩
      rw [← hB] at b1 b2 hwa ⊢
      have H1 := Lib.hid b1
      have H2 := Lib.hid b2
      have H2L := Lib.hid (b2 : w0.heap[B + 1]? = some (.cells (ints .u8 (List.replicate 32 0)).toArray 25 (0, 0)))
      clear b1 b2 b3 HBX hB
      have HCS : Hid (∀ (j : Nat) (v : Value), (qL.map bval)[j]? = some v → w0.cell? ((⟨B, 0, none⟩ : Addr).add j) = some v) := Lib.hid (fun j v hj => by rw [WideShapes.add_plain, Nat.zero_add, H1.out.cell j, hj])
      have HSZ : Hid ((Tryd.prog.info? 5).map (·.size) = some 1) := Lib.hid (by rw [HI0.out]; simp [HZ1.out])
      have HBL := Lib.hid (Below.refl (B + 1) w0)
      go_wp2_with (refine wpList_copy_splice rfl (.tmp 27) (.tmp 28) 22 22 rfl 5 Tryd.underlying22 HSZ.out (some ⟨B + 1, 0, none⟩) (some ⟨B, 0, none⟩) 32 32 32 32 rfl rfl (B + 1) 0 (ints .u8 (List.replicate 32 0)) 25 H2L.out (qL.map bval) rfl (fun _ => ⟨rfl, _, rfl, HCS.out⟩) (by decide) (bval_one _) (B + 1) w0 HBL.out (Nat.le_refl _) ?_; intro w1 hc1 hb1)
      have hc2 : Blk w1 (B + 1) (qL.map bval) 25 := by
        have h := hc1.out
        rw [qL_splice] at h
        exact h
      have H1 := Lib.hid (H1.out.same (hb1.block B (by omega)))
      have H2 := Lib.hid hc2
      have HE : Hid (Ext w w1) := Lib.hid (Below.trans HE.out (hb1.mono (by omega)))
      clear hc1 hc2 hb1 H2L HCS HBL
      refine (Reduce_num _ qL _ (H1.out.row (n := 32) rfl (by unfold maxLen; omega)) (HGT.out.ext HE.out)).mono ?_
      rintro e w2 ⟨rfl, hb⟩
      rw [qL_zero]
      have H2 := Lib.hid (ext_blk H2.out hb)
      have HE := Lib.hid (HE.out.trans hb)
      clear hb H1
      have HIQ : Hid ((Tryd.prog.info? 25).map (·.size) = some (qL.map bval).length) := Lib.hid (num_size rfl)
      have HIM : Hid ((Tryd.prog.info? 25).map (·.size) = some (qM.map bval).length) := Lib.hid (num_size rfl)
      go_wp2_with (first | (refine wpList_eql (by rfl) _ _ _ _ _ _ 32 _ zer zer true rfl (Or.inl ⟨rfl, decide_eq_true rfl⟩) Tryd.underlying25 Tryd.underlying5 num_info num_cells num_guard rfl rfl zer_length zer_length ?_) | (refine wpList_load_w (by rfl) _ _ rfl (B + 1) rfl _ _ _ _ H2.out Tryd.underlying25 HIQ.out ?_))
      refine (Less_num qL _ rfl (HGT.out.ext HE.out)).mono ?_
      rintro e w3 ⟨rfl, hb⟩
      rw [qL_less]
      have H2 := Lib.hid (ext_blk H2.out hb)
      have HE := Lib.hid (HE.out.trans hb)
      clear hb
      have e0 := H2.out.cell 0
      have f0 := H2.out.free 0
      rw [show (qL.map bval)[0]? = some (.int .u8 237) from rfl] at e0
      have H3 := Lib.hid (H2.out.set 0 (.int .u8 236))
      rw [qM_set] at H3
      have HX3 : Hid (Ext w (w3.setCell ⟨B + 1, 0, none⟩ (.int .u8 236))) := Lib.hid (Below.setCell HE.out (by simp; omega) _)
      have HZ := Lib.hid (Blk.made (w3.setCell ⟨B + 1, 0, none⟩ (.int .u8 236)) (ints .u8 (List.replicate 32 0)) 25)
      have HBD : Hid (B + 1 < w3.heap.size) := Lib.hid H2.out.lt
      go_upto_region 9 with (fail)
      have hsz : (w3.setCell ⟨B + 1, 0, none⟩ (.int .u8 236)).heap.size = w3.heap.size := by simp
      rw [hsz] at HZ
      have H3a := H3
      have H3 := Lib.hid (H3.out.alloc (.cells (ints .u8 (List.replicate 32 0)).toArray 25))
      have HX3 := Lib.hid (HX3.out.trans (Ext.alloc (w3.setCell ⟨B + 1, 0, none⟩ (.int .u8 236)) (.cells (ints .u8 (List.replicate 32 0)).toArray 25)))
      have HDW : Hid (w.heap.size ≤ w3.heap.size) := Lib.hid HE.out.size
      clear HE hsz
      have HK : ∀ (D : Nat) (w5 : World) (Q : Exit → Act → World → Prop), True := fun _ _ _ => trivial
      clear HK
      by_cases hx0 : x.toNat = 0
      · have hx1 : ¬ (0 : Int) < (x.toNat : Int) := by omega
        have HX0 := Lib.hid hx0
        clear hx0
        go_upto_region 12 with (first | (refine wpList_load_blk rfl _ _ rfl (B + 1) rfl _ _ _ _ H3a.out Tryd.underlying25 HIM.out ?_) | (refine wpList_store_blk rfl _ _ _ rfl w3.heap.size (qM.map bval) rfl rfl _ _ HZ.out rfl HIM.out (bval_one _) ?_; intro w4 hb4 hg4))
        have HE : Hid (Ext w w4) := Lib.hid (ext_grown HX3.out hg4 HDW.out)
        have H9 := Lib.hid (H3.out.grown hg4 (by have := HBD.out; simp; omega))
        have HD : Hid (Blk w4 w3.heap.size ((wantL x).map bval) 25) := Lib.hid (by rw [want_zero x HX0.out]; exact hb4)
        have HLM : Hid ((l.map bval).length = l.length) := Lib.hid (List.length_map _)
        have HMM : Hid ((m.map bval).length = m.length) := Lib.hid (List.length_map _)
        have HLE : Hid ((l ++ m).take 64 = l) := Lib.hid (long_eq l m HLL.out)
        have HT1 : Hid (l.take 64 = l) := Lib.hid (List.take_of_length_le (by have := HLL.out; omega))
        have HIW : Hid ((Tryd.prog.info? 25).map (·.size) = some ((wantL x).map bval).length) := Lib.hid (num_size (wantL_length x))
        have hll : l.length ≤ 64 := by have := HLL.out; omega
        have hml := HML.out
        clear hx1 hb4 hg4 HZ HX3 H3 H3a HDW
        generalize w3.heap.size = D at *
        have B0 : Ext w4 w4.drew := Ext.drew _
        refine wp_region_held_drew (S := fun w' => w'.rangeAt (B + 1) 0 (qM.map bval) ∧ w'.rangeAt D 0 ((wantL x).map bval)) (by kernel_rfl) ⟨bl_range H9.out B0, bl_range HD.out B0⟩ (fun hHeld => ?_)
        refine wpAnyH_take (i := 0) (v := .slice a l.length cap) rfl (by kernel_rfl) (by kernel_rfl) (by kernel_rfl) (fun _ _ _ h => h) (yi_move _ _ (by rfl) rfl rfl) hHeld ?_
        simp only [Act.put, List.getElem_toArray, List.getElem_cons_zero, List.getElem_cons_succ, List.setIfInBounds_toArray, List.set_cons_zero, List.set_cons_succ]
        refine wpAnyH_take (i := 2) (v := .slice a' m.length cap') rfl (by kernel_rfl) (by kernel_rfl) (by kernel_rfl) (fun _ _ _ h => h) (yi_move _ _ (by rfl) rfl rfl) hHeld ?_
        simp only [Act.put, List.getElem_toArray, List.getElem_cons_zero, List.getElem_cons_succ, List.setIfInBounds_toArray, List.set_cons_zero, List.set_cons_succ]
        refine wpAnyH_take (i := 5) (v := .slice a l.length cap) rfl (by kernel_rfl) (by kernel_rfl) (by kernel_rfl) (fun _ _ _ h => h) (yi_move _ _ (by rfl) rfl rfl) hHeld ?_
        simp only [Act.put, List.getElem_toArray, List.getElem_cons_zero, List.getElem_cons_succ, List.setIfInBounds_toArray, List.set_cons_zero, List.set_cons_succ]
        refine wpAnyH_ready (rs := [1]) (by kernel_rfl) (by simp) (AllReadyH.cons rfl (fun K hK => ?_) AllReadyH.nil)
        refine step_append_row rfl _ _ 22 rfl w4.heap.size 5 i0 (.int .u8 0) 1 Tryd.underlying22 HI0.out HZ0.out HZ1.out HZ2.out rfl (.slice none 0 0) 0 [] rfl (World.ownsRow_nil _ _ _ _) rfl (HRW.out.below (HE.out.trans B0)) (bval_one _) (by rw [HLM.out]; unfold maxLen; omega) (by rw [HLM.out]; omega) (Nat.le_refl _) ?_
        intro v1 m1 hown1 hgrow1
        have B1 : Ext w4 m1 := ext_own B0 (World.ownsRow_nil _ w4.heap.size 5 1) (Nat.le_refl _) hgrow1
        have HO1 := Lib.hid hown1
        clear hown1 hgrow1
        refine hK.out _ _ ⟨bl_range H9.out B1, bl_range HD.out B1⟩ (fun hHeld => ?_)
        clear hK K
        try simp only [Act.put, List.getElem_toArray, List.getElem_cons_zero, List.getElem_cons_succ, List.setIfInBounds_toArray, List.set_cons_zero, List.set_cons_succ]
        refine wpAnyH_ready (rs := [3]) (by kernel_rfl) (by simp) (AllReadyH.cons rfl (fun K hK => ?_) AllReadyH.nil)
        refine step_append_row rfl _ _ 22 rfl w4.heap.size 5 i0 (.int .u8 0) 1 Tryd.underlying22 HI0.out HZ0.out HZ1.out HZ2.out rfl v1 _ _ rfl HO1.out rfl (HRU.out.below (HE.out.trans B1)) (bval_one _) (by rw [HLM.out, HMM.out]; unfold maxLen; omega) (by rw [HLM.out, HMM.out]; omega) B1.size ?_
        intro v3 m3 hown3 hgrow3
        have B3 : Ext w4 m3 := ext_own B1 HO1.out (Nat.le_refl _) hgrow3
        have HR3 : Hid (Row1 m3 v3 ((l ++ m).map bval)) := Lib.hid (by have h := Row1.of_own hown3; rw [List.nil_append, ← List.map_append] at h; exact h)
        clear hown3 hgrow3 HO1
        refine hK.out _ _ ⟨bl_range H9.out B3, bl_range HD.out B3⟩ (fun hHeld => ?_)
        clear hK K
        try simp only [Act.put, List.getElem_toArray, List.getElem_cons_zero, List.getElem_cons_succ, List.setIfInBounds_toArray, List.set_cons_zero, List.set_cons_succ]
        refine wpAnyH_ready (rs := [4]) (by kernel_rfl) (by simp) (AllReadyH.cons rfl (fun K hK => ?_) AllReadyH.nil)
        go_simp
        refine (Reduce_num _ (l ++ m) _ HR3.out (HGT.out.ext (HE.out.trans B3))).mono ?_
        rintro e m4 ⟨rfl, b4⟩
        rw [HLE.out]
        have B4 := B3.trans b4
        refine hK.out _ _ ⟨bl_range H9.out B4, bl_range HD.out B4⟩ (fun hHeld => ?_)
        clear hK K
        try simp only [Act.put, List.getElem_toArray, List.getElem_cons_zero, List.getElem_cons_succ, List.setIfInBounds_toArray, List.set_cons_zero, List.set_cons_succ]
        refine wpAnyH_ready (rs := [6]) (by kernel_rfl) (by simp) (AllReadyH.cons rfl (fun K hK => ?_) AllReadyH.nil)
        go_simp
        refine (Reduce_num _ l _ (HRW.out.below (HE.out.trans B4)) (HGT.out.ext (HE.out.trans B4))).mono ?_
        rintro e m6 ⟨rfl, b6⟩
        rw [HT1.out]
        have B6 := B4.trans b6
        refine hK.out _ _ ⟨bl_range H9.out B6, bl_range HD.out B6⟩ (fun hHeld => ?_)
        clear hK K
        try simp only [Act.put, List.getElem_toArray, List.getElem_cons_zero, List.getElem_cons_succ, List.setIfInBounds_toArray, List.set_cons_zero, List.set_cons_succ]
        refine wpAnyH_take (i := 7) (v := .bool true) rfl (by kernel_rfl) (by kernel_rfl) (by kernel_rfl) (fun _ _ _ h => h) (yi_eql _ _ _ _ _ 32 _ (nq (leN l : Nat)) (nq (leN l : Nat)) true (by rfl) rfl (decide_eq_true rfl) Tryd.underlying25 Tryd.underlying5 num_info num_cells num_guard rfl rfl (nq_length _) (nq_length _)) hHeld ?_
        simp only [Act.put, List.getElem_toArray, List.getElem_cons_zero, List.getElem_cons_succ, List.setIfInBounds_toArray, List.set_cons_zero, List.set_cons_succ]
        refine wpAnyH_take (i := 8) (v := .bool true) rfl (by kernel_rfl) (by kernel_rfl) (by kernel_rfl) (fun _ _ _ h => h) (yi_move _ _ (by rfl) rfl rfl) hHeld ?_
        simp only [Act.put, List.getElem_toArray, List.getElem_cons_zero, List.getElem_cons_succ, List.setIfInBounds_toArray, List.set_cons_zero, List.set_cons_succ]
        refine wpAnyH_take (i := 9) (v := .bool true) rfl (by kernel_rfl) (by kernel_rfl) (by kernel_rfl) (fun _ _ _ h => h) (yi_move _ _ (by rfl) rfl rfl) hHeld ?_
        simp only [Act.put, List.getElem_toArray, List.getElem_cons_zero, List.getElem_cons_succ, List.setIfInBounds_toArray, List.set_cons_zero, List.set_cons_succ]
        refine wpAnyH_take (i := 10) (v := .bool true) rfl (by kernel_rfl) (by kernel_rfl) (by kernel_rfl) (fun _ _ _ h => h) (yi_pick _ _ _ true _ (by rfl) rfl rfl rfl) hHeld ?_
        simp only [Act.put, List.getElem_toArray, List.getElem_cons_zero, List.getElem_cons_succ, List.setIfInBounds_toArray, List.set_cons_zero, List.set_cons_succ]
        refine wpAnyH_take (i := 11) (v := .bool true) rfl (by kernel_rfl) (by kernel_rfl) (by kernel_rfl) (fun _ _ _ h => h) (yi_move _ _ (by rfl) rfl rfl) hHeld ?_
        simp only [Act.put, List.getElem_toArray, List.getElem_cons_zero, List.getElem_cons_succ, List.setIfInBounds_toArray, List.set_cons_zero, List.set_cons_succ]
        refine wpAnyH_take (i := 12) (v := .agg (qM.map bval).toArray) rfl (by kernel_rfl) (by kernel_rfl) (by kernel_rfl) (fun _ _ _ h => h) (yieldsIf_load_mid (by rfl) _ _ rfl (B + 1) 0 rfl _ _ (fun w h => h.1) Tryd.underlying25 rfl HIM.out) hHeld ?_
        simp only [Act.put, List.getElem_toArray, List.getElem_cons_zero, List.getElem_cons_succ, List.setIfInBounds_toArray, List.set_cons_zero, List.set_cons_succ]
        refine wpAnyH_ready (rs := [13]) (by kernel_rfl) (by simp) (AllReadyH.cons rfl (fun K hK => ?_) AllReadyH.nil)
        go_simp
        refine (Less_num qM _ rfl (HGT.out.ext (HE.out.trans B6))).mono ?_
        rintro e m13 ⟨rfl, b13⟩
        rw [qM_less]
        have B13 := B6.trans b13
        refine hK.out _ _ ⟨bl_range H9.out B13, bl_range HD.out B13⟩ (fun hHeld => ?_)
        clear hK K
        try simp only [Act.put, List.getElem_toArray, List.getElem_cons_zero, List.getElem_cons_succ, List.setIfInBounds_toArray, List.set_cons_zero, List.set_cons_succ]
        refine wpAnyH_take (i := 14) (v := .bool true) rfl (by kernel_rfl) (by kernel_rfl) (by kernel_rfl) (fun _ _ _ h => h) (yi_pick _ _ _ true _ (by rfl) rfl rfl rfl) hHeld ?_
        simp only [Act.put, List.getElem_toArray, List.getElem_cons_zero, List.getElem_cons_succ, List.setIfInBounds_toArray, List.set_cons_zero, List.set_cons_succ]
        refine wpAnyH_take (i := 15) (v := .bool true) rfl (by kernel_rfl) (by kernel_rfl) (by kernel_rfl) (fun _ _ _ h => h) (yi_move _ _ (by rfl) rfl rfl) hHeld ?_
        simp only [Act.put, List.getElem_toArray, List.getElem_cons_zero, List.getElem_cons_succ, List.setIfInBounds_toArray, List.set_cons_zero, List.set_cons_succ]
        refine wpAnyH_take (i := 16) (v := .agg (qM.map bval).toArray) rfl (by kernel_rfl) (by kernel_rfl) (by kernel_rfl) (fun _ _ _ h => h) (yieldsIf_load_mid (by rfl) _ _ rfl (B + 1) 0 rfl _ _ (fun w h => h.1) Tryd.underlying25 rfl HIM.out) hHeld ?_
        simp only [Act.put, List.getElem_toArray, List.getElem_cons_zero, List.getElem_cons_succ, List.setIfInBounds_toArray, List.set_cons_zero, List.set_cons_succ]
        refine wpAnyH_take (i := 17) (v := .int .u8 (x.toNat : Int)) rfl (by kernel_rfl) (by kernel_rfl) (by kernel_rfl) (fun _ _ _ h => h) (yi_move _ _ (by rfl) rfl rfl) hHeld ?_
        simp only [Act.put, List.getElem_toArray, List.getElem_cons_zero, List.getElem_cons_succ, List.setIfInBounds_toArray, List.set_cons_zero, List.set_cons_succ]
        refine wpAnyH_take (i := 18) (v := .agg ((smL x).map bval).toArray) rfl (by kernel_rfl) (by kernel_rfl) (by kernel_rfl) (fun _ _ _ h => h) (yi_val _ (by rfl) (fun w _ => by unfold execOp; simp [build_sm, Act.eval])) hHeld ?_
        simp only [Act.put, List.getElem_toArray, List.getElem_cons_zero, List.getElem_cons_succ, List.setIfInBounds_toArray, List.set_cons_zero, List.set_cons_succ]
        refine wpAnyH_take (i := 20) (v := .agg ((wantL x).map bval).toArray) rfl (by kernel_rfl) (by kernel_rfl) (by kernel_rfl) (fun _ _ _ h => h) (yieldsIf_load_mid (by rfl) _ _ rfl D 0 rfl _ _ (fun w h => h.2) Tryd.underlying25 rfl HIW.out) hHeld ?_
        simp only [Act.put, List.getElem_toArray, List.getElem_cons_zero, List.getElem_cons_succ, List.setIfInBounds_toArray, List.set_cons_zero, List.set_cons_succ]
        refine wpAnyH_ready (rs := [19]) (by kernel_rfl) (by simp) (AllReadyH.cons rfl (fun K hK => ?_) AllReadyH.nil)
        go_simp
        refine (Add_num qM (smL x) _ rfl (smL_length _) (HGT.out.ext (HE.out.trans B13))).mono ?_
        rintro e m19 ⟨rfl, b19⟩
        rw [want_eq]
        have B19 := B13.trans b19
        refine hK.out _ _ ⟨bl_range H9.out B19, bl_range HD.out B19⟩ (fun hHeld => ?_)
        clear hK K
        try simp only [Act.put, List.getElem_toArray, List.getElem_cons_zero, List.getElem_cons_succ, List.setIfInBounds_toArray, List.set_cons_zero, List.set_cons_succ]
        refine wpAnyH_take (i := 21) (v := .bool true) rfl (by kernel_rfl) (by kernel_rfl) (by kernel_rfl) (fun _ _ _ h => h) (yi_eql _ _ _ _ _ 32 _ (wantL x) (wantL x) true (by rfl) rfl (decide_eq_true rfl) Tryd.underlying25 Tryd.underlying5 num_info num_cells num_guard rfl rfl (wantL_length _) (wantL_length _)) hHeld ?_
        simp only [Act.put, List.getElem_toArray, List.getElem_cons_zero, List.getElem_cons_succ, List.setIfInBounds_toArray, List.set_cons_zero, List.set_cons_succ]
        refine wpAnyH_take (i := 22) (v := .bool true) rfl (by kernel_rfl) (by kernel_rfl) (by kernel_rfl) (fun _ _ _ h => h) (yi_pick _ _ _ true _ (by rfl) rfl rfl rfl) hHeld ?_
        simp only [Act.put, List.getElem_toArray, List.getElem_cons_zero, List.getElem_cons_succ, List.setIfInBounds_toArray, List.set_cons_zero, List.set_cons_succ]
        refine wpAnyH_ready (rs := [23]) (by kernel_rfl) (by simp) (AllReadyH.cons rfl (fun K hK => ?_) AllReadyH.nil)
        go_simp
        refine hK.out _ _ ⟨bl_range H9.out B19, bl_range HD.out B19⟩ (fun hHeld => ?_)
        clear hK K
        try simp only [Act.put, List.getElem_toArray, List.getElem_cons_zero, List.getElem_cons_succ, List.setIfInBounds_toArray, List.set_cons_zero, List.set_cons_succ]
        refine wpAnyH_done (by kernel_rfl) ?_ _
        go_wp2_with fail
        go_ret
        exact ⟨rfl, HE.out.trans B19⟩
      · have hx1 : (0 : Int) < (x.toNat : Int) := by omega
        have hx2 := x.toNat_lt
        have HPV := Lib.hid (pred_val x (by omega))
        have HWP := Lib.hid (want_pos x (by omega))
        go_upto_region 12 with (first | (refine wpList_load_blk rfl _ _ rfl (B + 1) rfl _ _ _ _ H3a.out Tryd.underlying25 HIM.out ?_) | (refine wpList_store_blk rfl _ _ _ rfl w3.heap.size (qM.map bval) rfl rfl _ _ HZ.out rfl HIM.out (bval_one _) ?_; intro w4 hb4 hg4) | (refine wpList_store_blk rfl _ _ _ rfl w3.heap.size (Value.int .u8 ((x.toNat : Int) - 1) :: (List.replicate 31 (0 : UInt8)).map bval) rfl rfl _ _ hb4 rfl (by exact Tryd.arr25) (by intro u hu; rcases List.mem_cons.1 hu with rfl | hu; (rfl); (exact bval_one _ u hu)) ?_; intro w5 hb5 hg5))
        have hw5 : (Value.int .u8 ((x.toNat : Int) - 1) :: (List.replicate 31 (0 : UInt8)).map bval) = (wantL x).map bval := by rw [HWP.out, ← HPV.out]; rfl
        rw [hw5] at hb5
        have HE : Hid (Ext w w5) := Lib.hid (ext_grown (ext_grown HX3.out hg4 HDW.out) hg5 HDW.out)
        have H9 := Lib.hid ((H3.out.grown hg4 (by have := HBD.out; simp; omega)).grown hg5 (by have := HBD.out; simp; omega))
        have HD : Hid (Blk w5 w3.heap.size ((wantL x).map bval) 25) := Lib.hid (hb5)
        have HLM : Hid ((l.map bval).length = l.length) := Lib.hid (List.length_map _)
        have HMM : Hid ((m.map bval).length = m.length) := Lib.hid (List.length_map _)
        have HLE : Hid ((l ++ m).take 64 = l) := Lib.hid (long_eq l m HLL.out)
        have HT1 : Hid (l.take 64 = l) := Lib.hid (List.take_of_length_le (by have := HLL.out; omega))
        have HIW : Hid ((Tryd.prog.info? 25).map (·.size) = some ((wantL x).map bval).length) := Lib.hid (num_size (wantL_length x))
        have hll : l.length ≤ 64 := by have := HLL.out; omega
        have hml := HML.out
        clear hw5 hb4 hg4 hb5 hg5 HZ HX3 H3 H3a HDW
        generalize w3.heap.size = D at *
        have B0 : Ext w5 w5.drew := Ext.drew _
        refine wp_region_held_drew (S := fun w' => w'.rangeAt (B + 1) 0 (qM.map bval) ∧ w'.rangeAt D 0 ((wantL x).map bval)) (by kernel_rfl) ⟨bl_range H9.out B0, bl_range HD.out B0⟩ (fun hHeld => ?_)
        refine wpAnyH_take (i := 0) (v := .slice a l.length cap) rfl (by kernel_rfl) (by kernel_rfl) (by kernel_rfl) (fun _ _ _ h => h) (yi_move _ _ (by rfl) rfl rfl) hHeld ?_
        simp only [Act.put, List.getElem_toArray, List.getElem_cons_zero, List.getElem_cons_succ, List.setIfInBounds_toArray, List.set_cons_zero, List.set_cons_succ]
        refine wpAnyH_take (i := 2) (v := .slice a' m.length cap') rfl (by kernel_rfl) (by kernel_rfl) (by kernel_rfl) (fun _ _ _ h => h) (yi_move _ _ (by rfl) rfl rfl) hHeld ?_
        simp only [Act.put, List.getElem_toArray, List.getElem_cons_zero, List.getElem_cons_succ, List.setIfInBounds_toArray, List.set_cons_zero, List.set_cons_succ]
        refine wpAnyH_take (i := 5) (v := .slice a l.length cap) rfl (by kernel_rfl) (by kernel_rfl) (by kernel_rfl) (fun _ _ _ h => h) (yi_move _ _ (by rfl) rfl rfl) hHeld ?_
        simp only [Act.put, List.getElem_toArray, List.getElem_cons_zero, List.getElem_cons_succ, List.setIfInBounds_toArray, List.set_cons_zero, List.set_cons_succ]
        refine wpAnyH_ready (rs := [1]) (by kernel_rfl) (by simp) (AllReadyH.cons rfl (fun K hK => ?_) AllReadyH.nil)
        refine step_append_row rfl _ _ 22 rfl w5.heap.size 5 i0 (.int .u8 0) 1 Tryd.underlying22 HI0.out HZ0.out HZ1.out HZ2.out rfl (.slice none 0 0) 0 [] rfl (World.ownsRow_nil _ _ _ _) rfl (HRW.out.below (HE.out.trans B0)) (bval_one _) (by rw [HLM.out]; unfold maxLen; omega) (by rw [HLM.out]; omega) (Nat.le_refl _) ?_
        intro v1 m1 hown1 hgrow1
        have B1 : Ext w5 m1 := ext_own B0 (World.ownsRow_nil _ w5.heap.size 5 1) (Nat.le_refl _) hgrow1
        have HO1 := Lib.hid hown1
        clear hown1 hgrow1
        refine hK.out _ _ ⟨bl_range H9.out B1, bl_range HD.out B1⟩ (fun hHeld => ?_)
        clear hK K
        try simp only [Act.put, List.getElem_toArray, List.getElem_cons_zero, List.getElem_cons_succ, List.setIfInBounds_toArray, List.set_cons_zero, List.set_cons_succ]
        refine wpAnyH_ready (rs := [3]) (by kernel_rfl) (by simp) (AllReadyH.cons rfl (fun K hK => ?_) AllReadyH.nil)
        refine step_append_row rfl _ _ 22 rfl w5.heap.size 5 i0 (.int .u8 0) 1 Tryd.underlying22 HI0.out HZ0.out HZ1.out HZ2.out rfl v1 _ _ rfl HO1.out rfl (HRU.out.below (HE.out.trans B1)) (bval_one _) (by rw [HLM.out, HMM.out]; unfold maxLen; omega) (by rw [HLM.out, HMM.out]; omega) B1.size ?_
        intro v3 m3 hown3 hgrow3
        have B3 : Ext w5 m3 := ext_own B1 HO1.out (Nat.le_refl _) hgrow3
        have HR3 : Hid (Row1 m3 v3 ((l ++ m).map bval)) := Lib.hid (by have h := Row1.of_own hown3; rw [List.nil_append, ← List.map_append] at h; exact h)
        clear hown3 hgrow3 HO1
        refine hK.out _ _ ⟨bl_range H9.out B3, bl_range HD.out B3⟩ (fun hHeld => ?_)
        clear hK K
        try simp only [Act.put, List.getElem_toArray, List.getElem_cons_zero, List.getElem_cons_succ, List.setIfInBounds_toArray, List.set_cons_zero, List.set_cons_succ]
        refine wpAnyH_ready (rs := [4]) (by kernel_rfl) (by simp) (AllReadyH.cons rfl (fun K hK => ?_) AllReadyH.nil)
        go_simp
        refine (Reduce_num _ (l ++ m) _ HR3.out (HGT.out.ext (HE.out.trans B3))).mono ?_
        rintro e m4 ⟨rfl, b4⟩
        rw [HLE.out]
        have B4 := B3.trans b4
        refine hK.out _ _ ⟨bl_range H9.out B4, bl_range HD.out B4⟩ (fun hHeld => ?_)
        clear hK K
        try simp only [Act.put, List.getElem_toArray, List.getElem_cons_zero, List.getElem_cons_succ, List.setIfInBounds_toArray, List.set_cons_zero, List.set_cons_succ]
        refine wpAnyH_ready (rs := [6]) (by kernel_rfl) (by simp) (AllReadyH.cons rfl (fun K hK => ?_) AllReadyH.nil)
        go_simp
        refine (Reduce_num _ l _ (HRW.out.below (HE.out.trans B4)) (HGT.out.ext (HE.out.trans B4))).mono ?_
        rintro e m6 ⟨rfl, b6⟩
        rw [HT1.out]
        have B6 := B4.trans b6
        refine hK.out _ _ ⟨bl_range H9.out B6, bl_range HD.out B6⟩ (fun hHeld => ?_)
        clear hK K
        try simp only [Act.put, List.getElem_toArray, List.getElem_cons_zero, List.getElem_cons_succ, List.setIfInBounds_toArray, List.set_cons_zero, List.set_cons_succ]
        refine wpAnyH_take (i := 7) (v := .bool true) rfl (by kernel_rfl) (by kernel_rfl) (by kernel_rfl) (fun _ _ _ h => h) (yi_eql _ _ _ _ _ 32 _ (nq (leN l : Nat)) (nq (leN l : Nat)) true (by rfl) rfl (decide_eq_true rfl) Tryd.underlying25 Tryd.underlying5 num_info num_cells num_guard rfl rfl (nq_length _) (nq_length _)) hHeld ?_
        simp only [Act.put, List.getElem_toArray, List.getElem_cons_zero, List.getElem_cons_succ, List.setIfInBounds_toArray, List.set_cons_zero, List.set_cons_succ]
        refine wpAnyH_take (i := 8) (v := .bool true) rfl (by kernel_rfl) (by kernel_rfl) (by kernel_rfl) (fun _ _ _ h => h) (yi_move _ _ (by rfl) rfl rfl) hHeld ?_
        simp only [Act.put, List.getElem_toArray, List.getElem_cons_zero, List.getElem_cons_succ, List.setIfInBounds_toArray, List.set_cons_zero, List.set_cons_succ]
        refine wpAnyH_take (i := 9) (v := .bool true) rfl (by kernel_rfl) (by kernel_rfl) (by kernel_rfl) (fun _ _ _ h => h) (yi_move _ _ (by rfl) rfl rfl) hHeld ?_
        simp only [Act.put, List.getElem_toArray, List.getElem_cons_zero, List.getElem_cons_succ, List.setIfInBounds_toArray, List.set_cons_zero, List.set_cons_succ]
        refine wpAnyH_take (i := 10) (v := .bool true) rfl (by kernel_rfl) (by kernel_rfl) (by kernel_rfl) (fun _ _ _ h => h) (yi_pick _ _ _ true _ (by rfl) rfl rfl rfl) hHeld ?_
        simp only [Act.put, List.getElem_toArray, List.getElem_cons_zero, List.getElem_cons_succ, List.setIfInBounds_toArray, List.set_cons_zero, List.set_cons_succ]
        refine wpAnyH_take (i := 11) (v := .bool true) rfl (by kernel_rfl) (by kernel_rfl) (by kernel_rfl) (fun _ _ _ h => h) (yi_move _ _ (by rfl) rfl rfl) hHeld ?_
        simp only [Act.put, List.getElem_toArray, List.getElem_cons_zero, List.getElem_cons_succ, List.setIfInBounds_toArray, List.set_cons_zero, List.set_cons_succ]
        refine wpAnyH_take (i := 12) (v := .agg (qM.map bval).toArray) rfl (by kernel_rfl) (by kernel_rfl) (by kernel_rfl) (fun _ _ _ h => h) (yieldsIf_load_mid (by rfl) _ _ rfl (B + 1) 0 rfl _ _ (fun w h => h.1) Tryd.underlying25 rfl HIM.out) hHeld ?_
        simp only [Act.put, List.getElem_toArray, List.getElem_cons_zero, List.getElem_cons_succ, List.setIfInBounds_toArray, List.set_cons_zero, List.set_cons_succ]
        refine wpAnyH_ready (rs := [13]) (by kernel_rfl) (by simp) (AllReadyH.cons rfl (fun K hK => ?_) AllReadyH.nil)
        go_simp
        refine (Less_num qM _ rfl (HGT.out.ext (HE.out.trans B6))).mono ?_
        rintro e m13 ⟨rfl, b13⟩
        rw [qM_less]
        have B13 := B6.trans b13
        refine hK.out _ _ ⟨bl_range H9.out B13, bl_range HD.out B13⟩ (fun hHeld => ?_)
        clear hK K
        try simp only [Act.put, List.getElem_toArray, List.getElem_cons_zero, List.getElem_cons_succ, List.setIfInBounds_toArray, List.set_cons_zero, List.set_cons_succ]
        refine wpAnyH_take (i := 14) (v := .bool true) rfl (by kernel_rfl) (by kernel_rfl) (by kernel_rfl) (fun _ _ _ h => h) (yi_pick _ _ _ true _ (by rfl) rfl rfl rfl) hHeld ?_
        simp only [Act.put, List.getElem_toArray, List.getElem_cons_zero, List.getElem_cons_succ, List.setIfInBounds_toArray, List.set_cons_zero, List.set_cons_succ]
        refine wpAnyH_take (i := 15) (v := .bool true) rfl (by kernel_rfl) (by kernel_rfl) (by kernel_rfl) (fun _ _ _ h => h) (yi_move _ _ (by rfl) rfl rfl) hHeld ?_
        simp only [Act.put, List.getElem_toArray, List.getElem_cons_zero, List.getElem_cons_succ, List.setIfInBounds_toArray, List.set_cons_zero, List.set_cons_succ]
        refine wpAnyH_take (i := 16) (v := .agg (qM.map bval).toArray) rfl (by kernel_rfl) (by kernel_rfl) (by kernel_rfl) (fun _ _ _ h => h) (yieldsIf_load_mid (by rfl) _ _ rfl (B + 1) 0 rfl _ _ (fun w h => h.1) Tryd.underlying25 rfl HIM.out) hHeld ?_
        simp only [Act.put, List.getElem_toArray, List.getElem_cons_zero, List.getElem_cons_succ, List.setIfInBounds_toArray, List.set_cons_zero, List.set_cons_succ]
        refine wpAnyH_take (i := 17) (v := .int .u8 (x.toNat : Int)) rfl (by kernel_rfl) (by kernel_rfl) (by kernel_rfl) (fun _ _ _ h => h) (yi_move _ _ (by rfl) rfl rfl) hHeld ?_
        simp only [Act.put, List.getElem_toArray, List.getElem_cons_zero, List.getElem_cons_succ, List.setIfInBounds_toArray, List.set_cons_zero, List.set_cons_succ]
        refine wpAnyH_take (i := 18) (v := .agg ((smL x).map bval).toArray) rfl (by kernel_rfl) (by kernel_rfl) (by kernel_rfl) (fun _ _ _ h => h) (yi_val _ (by rfl) (fun w _ => by unfold execOp; simp [build_sm, Act.eval])) hHeld ?_
        simp only [Act.put, List.getElem_toArray, List.getElem_cons_zero, List.getElem_cons_succ, List.setIfInBounds_toArray, List.set_cons_zero, List.set_cons_succ]
        refine wpAnyH_take (i := 20) (v := .agg ((wantL x).map bval).toArray) rfl (by kernel_rfl) (by kernel_rfl) (by kernel_rfl) (fun _ _ _ h => h) (yieldsIf_load_mid (by rfl) _ _ rfl D 0 rfl _ _ (fun w h => h.2) Tryd.underlying25 rfl HIW.out) hHeld ?_
        simp only [Act.put, List.getElem_toArray, List.getElem_cons_zero, List.getElem_cons_succ, List.setIfInBounds_toArray, List.set_cons_zero, List.set_cons_succ]
        refine wpAnyH_ready (rs := [19]) (by kernel_rfl) (by simp) (AllReadyH.cons rfl (fun K hK => ?_) AllReadyH.nil)
        go_simp
        refine (Add_num qM (smL x) _ rfl (smL_length _) (HGT.out.ext (HE.out.trans B13))).mono ?_
        rintro e m19 ⟨rfl, b19⟩
        rw [want_eq]
        have B19 := B13.trans b19
        refine hK.out _ _ ⟨bl_range H9.out B19, bl_range HD.out B19⟩ (fun hHeld => ?_)
        clear hK K
        try simp only [Act.put, List.getElem_toArray, List.getElem_cons_zero, List.getElem_cons_succ, List.setIfInBounds_toArray, List.set_cons_zero, List.set_cons_succ]
        refine wpAnyH_take (i := 21) (v := .bool true) rfl (by kernel_rfl) (by kernel_rfl) (by kernel_rfl) (fun _ _ _ h => h) (yi_eql _ _ _ _ _ 32 _ (wantL x) (wantL x) true (by rfl) rfl (decide_eq_true rfl) Tryd.underlying25 Tryd.underlying5 num_info num_cells num_guard rfl rfl (wantL_length _) (wantL_length _)) hHeld ?_
        simp only [Act.put, List.getElem_toArray, List.getElem_cons_zero, List.getElem_cons_succ, List.setIfInBounds_toArray, List.set_cons_zero, List.set_cons_succ]
        refine wpAnyH_take (i := 22) (v := .bool true) rfl (by kernel_rfl) (by kernel_rfl) (by kernel_rfl) (fun _ _ _ h => h) (yi_pick _ _ _ true _ (by rfl) rfl rfl rfl) hHeld ?_
        simp only [Act.put, List.getElem_toArray, List.getElem_cons_zero, List.getElem_cons_succ, List.setIfInBounds_toArray, List.set_cons_zero, List.set_cons_succ]
        refine wpAnyH_ready (rs := [23]) (by kernel_rfl) (by simp) (AllReadyH.cons rfl (fun K hK => ?_) AllReadyH.nil)
        go_simp
        refine hK.out _ _ ⟨bl_range H9.out B19, bl_range HD.out B19⟩ (fun hHeld => ?_)
        clear hK K
        try simp only [Act.put, List.getElem_toArray, List.getElem_cons_zero, List.getElem_cons_succ, List.setIfInBounds_toArray, List.set_cons_zero, List.set_cons_succ]
        refine wpAnyH_done (by kernel_rfl) ?_ _
        go_wp2_with fail
        go_ret
        exact ⟨rfl, HE.out.trans B19⟩
    · have hd1 : ((l.length : Int) != 64) = false := by simp; omega
      have hd2 : (100 : Int) < (m.length : Int) := by omega
      clear h64
      go_wp2_with fail
      go_ret
      exact ⟨rfl, HE.out⟩
  · have hd1 : ((l.length : Int) != 64) = true := by simp; omega
    clear h64
    go_wp2_with fail
    go_ret
    exact ⟨rfl, HE.out⟩

end Go.Proofs.YtoebokeehhfboaaDoor
