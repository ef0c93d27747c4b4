/- Texts that belong together, one behind the other; each says in its own first remark what it shows. -/
import Derived.Test.YtelenldabjmjbaaAll2

/- The walk of PolySums. Laid by wip/gen/gply1.py. Each theorem names its own conditions. -/
namespace Go.Proofs.Ytelenldabjmjbaa
open Go.RowKit
set_option linter.unusedVariables false
set_option linter.unusedSimpArgs false

theorem PSum_val (kb : List UInt8) (v : Value) (ls : List (List UInt8)) (m : List UInt8) (w : World) (hk : kb.length = 32) (hv : RowB w v ls) (hf : ls.flatten = m) (hm : m.length ≤ 1099511627776) :
    Calls Try.prog 12 #[.agg (kb.map bval).toArray, v] w fun e w' => e = .returned (.agg ((polyTag kb m).map bval).toArray) ∧ Below w.heap.size w w' := by
  subst hf
  exact PSum_num kb v ls w hk hv hm
theorem PSum_one (kb : List UInt8) (x : Value) (l : List UInt8) (w : World) (hk : kb.length = 32) (hx : Row1 w x (l.map bval)) (hl : l.length ≤ 1099511627776) :
    Calls Try.prog 12 #[.agg (kb.map bval).toArray, .slice (some ⟨w.heap.size, 0, none⟩) 1 1] (w.alloc (.cells #[x] 27)) fun e w' => e = .returned (.agg ((polyTag kb l).map bval).toArray) ∧ Ext w w' := by
  have he := Ext.alloc w (.cells #[x] 27)
  have h := PSum_val kb _ [l] l _ hk (rowB1 (Row1.made w #[x] 27 _ 1 [x] rfl rfl rfl (by unfold maxLen; omega)) (hx.below he)) (by simp) hl
  exact h.mono fun e w' hh => ⟨hh.1, he.trans hh.2⟩

set_option maxRecDepth 100000 in
set_option maxHeartbeats 8000000 in
theorem polySums_any (kb : List UInt8) (v : Value) (ls : List (List UInt8)) (w : World) (hk : kb.length = 32) (hv : RowB w v ls) :
    Calls Try.prog 3 #[.agg (kb.map bval).toArray, v] w fun e w' => e = .returned (.bool true) ∧ Below w.heap.size w w' := by
  obtain ⟨iq, hq0, hq1, hq2⟩ := info_two (P := Try.prog) (t := 27) (z := .slice none 0 0) (n := 1) (by kernel_rfl)
  have HQ0 := Lib.hid hq0
  have HQ1 := Lib.hid hq1
  have HQ2 := Lib.hid hq2
  obtain ⟨i0, hi, hz0, hz1, hz2⟩ := info_parts Try.info5
  have HI0 := Lib.hid hi
  have HZ0 := Lib.hid hz0
  have HZ1 := Lib.hid hz1
  have HZ2 := Lib.hid hz2
  clear hi hz0 hz1 hz2 hq0 hq1 hq2
  obtain ⟨a, cap, rfl⟩ := rowB_any hv
  have HKL := Lib.hid hk
  have HRB := Lib.hid hv
  have HB1 := Lib.hid (Blk.made w (kb.map bval) 23)
  have HE := Lib.hid (Ext.alloc w (.cells (kb.map bval).toArray 23))
  have HI1 : Hid ((Try.prog.info? 23).map (·.size) = some (kb.map bval).length) := Lib.hid (num_size hk)
  clear hk hv
  go_enter Try.func3, Try.ntmps3
  go_upto_region 1 with (fail)
  change Code.wp _ _ _ _ (w.alloc (.cells (kb.map bval).toArray 23))
  have HRB := Lib.hid (HRB.out.below HE.out)
  generalize w.alloc (.cells (kb.map bval).toArray 23) = w1 at *
  obtain ⟨B, hB⟩ : ∃ B, B = w.heap.size := ⟨_, rfl⟩
  have HB1 := HB1.out
  rw [← hB] at HB1 ⊢
  have HB1 := Lib.hid HB1
  clear hB
  go_wp2_with fail
  refine (alive_any10 w1).mono ?_
  rintro e w2 ⟨rfl, hb⟩
  have HE := Lib.hid (HE.out.trans hb)
  have HB1 := Lib.hid (ext_blk HB1.out hb)
  have HRB := Lib.hid (HRB.out.below hb)
  clear hb
  go_wp2_with fail
  refine (big_any (.slice a ls.length cap) ls w2 HRB.out).mono ?_
  rintro e w3 ⟨rfl, rfl⟩
  cases hbig : bigB ls with
  | true =>
    clear hbig
    go_wp2_with fail
    go_ret
    exact ⟨rfl, HE.out⟩
  | false =>
    have hll := small_flat hbig
    clear hbig
    obtain ⟨m, hm⟩ : ∃ m, m = ls.flatten := ⟨_, rfl⟩
    rw [← hm] at hll
    have HMM := Lib.hid hm
    have HML : Hid (m.length ≤ 1099511627776) := Lib.hid (by omega)
    clear hll hm
    go_wp2_with fail
    refine (join_any (.slice a ls.length cap) ls w2 HRB.out (by rw [← HMM.out]; exact HML.out)).mono ?_
    rintro e w4 ⟨x, rfl, hx, hb⟩
    rw [← HMM.out] at hx
    have HX := Lib.hid hx
    obtain ⟨ax, cx, hxv, _⟩ := id hx
    rw [List.length_map] at hxv
    subst hxv
    have HE := Lib.hid (HE.out.trans hb)
    have HB1 := Lib.hid (ext_blk HB1.out hb)
    have HRB := Lib.hid (HRB.out.below hb)
    clear hb hx
    go_wp2_with (refine wpList_load_blk rfl _ _ rfl B rfl _ _ _ _ HB1.out Try.underlying23 HI1.out ?_)
    refine (rPoly_any kb m _ w4 HKL.out HX.out HML.out).mono ?_
    rintro e w5 ⟨rfl, hb⟩
    have HE := Lib.hid (HE.out.trans hb)
    have HB1 := Lib.hid (ext_blk HB1.out hb)
    have HRB := Lib.hid (HRB.out.below hb)
    have HX := Lib.hid (HX.out.below hb)
    clear hb
    have HZT := Lib.hid (Blk.made w5 (ints .u8 (List.replicate 16 0)) 30)
    have HEA := Lib.hid (Ext.alloc w5 (.cells (ints .u8 (List.replicate 16 0)).toArray 30))
    have HI3 : Hid ((Try.prog.info? 30).map (·.size) = some ((polyTag kb m).map bval).length) := Lib.hid (ptag_size (polyTag_length _ _))
    have HLo : Hid (((polyTag kb m).map bval).length = (ints .u8 (List.replicate 16 0)).length) := Lib.hid (by rw [List.length_map, polyTag_length, ints_length, List.length_replicate])
    go_upto_region 7 with (refine wpList_store_blk rfl _ _ _ rfl w5.heap.size ((polyTag kb m).map bval) rfl rfl _ _ HZT.out HLo.out HI3.out (bval_one _) ?_; intro w6 hb6 hg6)
    have HE4 := Lib.hid (ext_grown HEA.out hg6 (Nat.le_refl _))
    have HE := Lib.hid (HE.out.trans HE4.out)
    have HB1 := Lib.hid (ext_blk HB1.out HE4.out)
    have HRB := Lib.hid (HRB.out.below HE4.out)
    have HX := Lib.hid (HX.out.below HE4.out)
    have HB3 := Lib.hid hb6
    obtain ⟨T, hT⟩ : ∃ T, T = w5.heap.size := ⟨_, rfl⟩
    rw [← hT] at HB3 ⊢
    clear hb6 hg6 HZT HEA HLo HE4 hT
    have B0 : Ext w6 w6.drew := Ext.drew _
    refine wp_region_held_drew (S := fun w' => Ext w6 w') (by kernel_rfl) B0 (fun hHeld => ?_)
    refine wpAnyH_take (i := 0) (v := .agg ((kb).map bval).toArray) rfl (by kernel_rfl) (by kernel_rfl) (by kernel_rfl) (fun _ _ _ h => h) (yieldsIf_load_mid (by rfl) _ _ rfl B 0 rfl _ _ (fun w h => bl_range HB1.out h) Try.underlying23 rfl HI1.out) hHeld ?_
    simp only [Act.put, List.getElem_toArray, List.getElem_cons_zero, List.getElem_cons_succ, List.setIfInBounds_toArray, List.set_cons_zero, List.set_cons_succ]
    refine wpAnyH_take (i := 1) (v := .slice a ls.length cap) rfl (by kernel_rfl) (by kernel_rfl) (by kernel_rfl) (fun _ _ _ h => h) (yi_move _ (.slice a ls.length cap) (by rfl) rfl rfl) hHeld ?_
    simp only [Act.put, List.getElem_toArray, List.getElem_cons_zero, List.getElem_cons_succ, List.setIfInBounds_toArray, List.set_cons_zero, List.set_cons_succ]
    refine wpAnyH_take (i := 3) (v := .agg ((polyTag kb m).map bval).toArray) rfl (by kernel_rfl) (by kernel_rfl) (by kernel_rfl) (fun _ _ _ h => h) (yieldsIf_load_mid (by rfl) _ _ rfl T 0 rfl _ _ (fun w h => bl_range HB3.out h) Try.underlying30 rfl HI3.out) hHeld ?_
    simp only [Act.put, List.getElem_toArray, List.getElem_cons_zero, List.getElem_cons_succ, List.setIfInBounds_toArray, List.set_cons_zero, List.set_cons_succ]
    refine wpAnyH_ready (rs := [2]) (by kernel_rfl) (by simp) (AllReadyH.cons rfl (fun K hK => ?_) AllReadyH.nil)
    go_simp
    refine (PSum_val kb (.slice a ls.length cap) _ m _ HKL.out (HRB.out.below B0) HMM.out.symm HML.out).mono ?_
    rintro e m1 ⟨rfl, b1⟩
    have N1 : Ext w6 m1 := B0.trans b1
    refine hK.out _ _ N1 (fun hHeld => ?_)
    clear hK K
    try simp only [Act.put, List.getElem_toArray, List.getElem_cons_zero, List.getElem_cons_succ, List.setIfInBounds_toArray, List.set_cons_zero, List.set_cons_succ]
    refine wpAnyH_take (i := 4) (v := .bool true) rfl (by kernel_rfl) (by kernel_rfl) (by kernel_rfl) (fun _ _ _ h => h) (yi_eql _ _ _ _ _ 16 _ (polyTag kb m) (polyTag kb m) true (by rfl) rfl (decide_eq_true (rfl)) Try.underlying30 Try.underlying5 num_info num_cells tag_guard rfl rfl (polyTag_length _ _) (polyTag_length _ _)) hHeld ?_
    simp only [Act.put, List.getElem_toArray, List.getElem_cons_zero, List.getElem_cons_succ, List.setIfInBounds_toArray, List.set_cons_zero, List.set_cons_succ]
    refine wpAnyH_take (i := 5) (v := .bool true) rfl (by kernel_rfl) (by kernel_rfl) (by kernel_rfl) (fun _ _ _ h => h) (yi_move _ (.bool true) (by rfl) rfl rfl) hHeld ?_
    simp only [Act.put, List.getElem_toArray, List.getElem_cons_zero, List.getElem_cons_succ, List.setIfInBounds_toArray, List.set_cons_zero, List.set_cons_succ]
    refine wpAnyH_take (i := 6) (v := .agg ((kb).map bval).toArray) rfl (by kernel_rfl) (by kernel_rfl) (by kernel_rfl) (fun _ _ _ h => h) (yieldsIf_load_mid (by rfl) _ _ rfl B 0 rfl _ _ (fun w h => bl_range HB1.out h) Try.underlying23 rfl HI1.out) hHeld ?_
    simp only [Act.put, List.getElem_toArray, List.getElem_cons_zero, List.getElem_cons_succ, List.setIfInBounds_toArray, List.set_cons_zero, List.set_cons_succ]
    refine wpAnyH_take (i := 7) (v := .slice ax m.length cx) rfl (by kernel_rfl) (by kernel_rfl) (by kernel_rfl) (fun _ _ _ h => h) (yi_move _ (.slice ax m.length cx) (by rfl) rfl rfl) hHeld ?_
    simp only [Act.put, List.getElem_toArray, List.getElem_cons_zero, List.getElem_cons_succ, List.setIfInBounds_toArray, List.set_cons_zero, List.set_cons_succ]
    refine wpAnyH_take (i := 10) (v := .agg ((polyTag kb m).map bval).toArray) rfl (by kernel_rfl) (by kernel_rfl) (by kernel_rfl) (fun _ _ _ h => h) (yieldsIf_load_mid (by rfl) _ _ rfl T 0 rfl _ _ (fun w h => bl_range HB3.out h) Try.underlying30 rfl HI3.out) hHeld ?_
    simp only [Act.put, List.getElem_toArray, List.getElem_cons_zero, List.getElem_cons_succ, List.setIfInBounds_toArray, List.set_cons_zero, List.set_cons_succ]
    refine wpAnyH_ready (rs := [8]) (by kernel_rfl) (by simp) (AllReadyH.cons rfl (fun K hK => ?_) AllReadyH.nil)
    refine step_wp (by rfl) ?_
    refine wp_buildSlice_d (some 31) _ _ _ _ rfl rfl #[.slice ax m.length cx] iq (.slice none 0 0) Try.underlying24 HQ0.out HQ1.out (by rw [HQ2.out]; decide) (by rw [HQ2.out]; decide) (by rw [HQ2.out]; kernel_rfl) ?_
    obtain ⟨m2, hm2⟩ : ∃ wNew, wNew = World.alloc m1 (.cells #[.slice ax m.length cx] 27) := ⟨_, rfl⟩
    rw [← hm2]
    have b2 : Ext m1 m2 := by rw [hm2]; exact Ext.alloc _ _
    obtain ⟨g2, hg2⟩ : ∃ gNew, gNew = (m1).heap.size := ⟨_, rfl⟩
    rw [← hg2]
    have r2 : Row1 m2 (.slice (some ⟨g2, 0, none⟩) 1 1) [.slice ax m.length cx] := by rw [hm2, hg2]; exact Row1.made _ _ _ _ _ _ rfl rfl rfl (by unfold maxLen; omega)
    clear hm2 hg2
    have N2 : Ext w6 m2 := N1.trans b2
    refine hK.out _ _ N2 (fun hHeld => ?_)
    clear hK K
    try simp only [Act.put, List.getElem_toArray, List.getElem_cons_zero, List.getElem_cons_succ, List.setIfInBounds_toArray, List.set_cons_zero, List.set_cons_succ]
    refine wpAnyH_ready (rs := [9]) (by kernel_rfl) (by simp) (AllReadyH.cons rfl (fun K hK => ?_) AllReadyH.nil)
    go_simp
    refine (PSum_val (kb) (.slice (some ⟨g2, 0, none⟩) 1 1) _ (m) _ HKL.out (rowB1 r2 ((HX.out).below N2)) (by simp) (HML.out)).mono ?_
    rintro e m3 ⟨rfl, b3⟩
    have r2 := r2.below b3
    have N3 : Ext w6 m3 := N2.trans b3
    refine hK.out _ _ N3 (fun hHeld => ?_)
    clear hK K
    try simp only [Act.put, List.getElem_toArray, List.getElem_cons_zero, List.getElem_cons_succ, List.setIfInBounds_toArray, List.set_cons_zero, List.set_cons_succ]
    refine wpAnyH_take (i := 11) (v := .bool true) rfl (by kernel_rfl) (by kernel_rfl) (by kernel_rfl) (fun _ _ _ h => h) (yi_eql _ _ _ _ _ 16 _ (polyTag (kb) (m)) (polyTag kb m) true (by rfl) rfl (decide_eq_true (rfl)) Try.underlying30 Try.underlying5 num_info num_cells tag_guard rfl rfl (polyTag_length _ _) (polyTag_length _ _)) hHeld ?_
    simp only [Act.put, List.getElem_toArray, List.getElem_cons_zero, List.getElem_cons_succ, List.setIfInBounds_toArray, List.set_cons_zero, List.set_cons_succ]
    refine wpAnyH_take (i := 12) (v := .bool true) rfl (by kernel_rfl) (by kernel_rfl) (by kernel_rfl) (fun _ _ _ h => h) (yi_pick _ _ _ true _ (by rfl) rfl rfl rfl) hHeld ?_
    simp only [Act.put, List.getElem_toArray, List.getElem_cons_zero, List.getElem_cons_succ, List.setIfInBounds_toArray, List.set_cons_zero, List.set_cons_succ]
    refine wpAnyH_ready (rs := [13]) (by kernel_rfl) (by simp) (AllReadyH.cons rfl (fun K hK => ?_) AllReadyH.nil)
    go_simp
    refine hK.out _ _ N3 (fun hHeld => ?_)
    clear hK K
    try simp only [Act.put, List.getElem_toArray, List.getElem_cons_zero, List.getElem_cons_succ, List.setIfInBounds_toArray, List.set_cons_zero, List.set_cons_succ]
    refine wpAnyH_done (by kernel_rfl) ?_ _
    go_wp2_with fail
    go_ret
    exact ⟨rfl, HE.out.trans N3⟩

end Go.Proofs.Ytelenldabjmjbaa

/- The walk of PolyNought. Laid by wip/gen/gply1.py. Each theorem names its own conditions. -/
namespace Go.Proofs.Ytelenldabjmjbaa
open Go.RowKit
set_option linter.unusedVariables false
set_option linter.unusedSimpArgs false

def nz (kb : List UInt8) (k : Nat) : List UInt8 := List.replicate k 0 ++ kb.drop k
theorem nz_length {kb : List UInt8} (hk : kb.length = 32) {k : Nat} (h : k ≤ 32) : (nz kb k).length = 32 := by
  unfold nz
  rw [List.length_append, List.length_replicate, List.length_drop, hk]
  omega
theorem nz_set {kb : List UInt8} (hk : kb.length = 32) {k : Nat} (h : k < 32) : (nz kb k).set k 0 = nz kb (k + 1) := by
  unfold nz
  rw [List.set_append_right _ _ (by rw [List.length_replicate]; omega), List.length_replicate, Nat.sub_self, List.drop_eq_getElem_cons (by omega), List.set_cons_zero, List.replicate_succ', List.append_assoc]
  rfl
theorem nz_set_val {kb : List UInt8} (hk : kb.length = 32) {k : Nat} (h : k < 32) : ((nz kb k).map bval).set k (.int .u8 0) = (nz kb (k + 1)).map bval := by
  rw [← nz_set hk h, List.map_set]
  rfl
theorem tag_nought {kb : List UInt8} (hk : kb.length = 32) (b : List UInt8) : polyTag (nz kb 16) b = (nz kb 16).drop 16 := by
  have h0 : ∀ i, i < 16 → (nz kb 16).getD i 0 = 0 := fun i hi => by
    unfold nz
    rw [List.getD_eq_getElem?_getD, List.getElem?_append_left (by rw [List.length_replicate]; exact hi), List.getElem?_replicate, if_pos hi]
    rfl
  unfold polyTag
  rw [pNum_zero b h0]
  have hl : (((nz kb 16).drop 16).take 16).length = 16 := by rw [List.length_take, List.length_drop, nz_length hk (by omega)]; rfl
  have e : (0 + (pS (nz kb 16) : Int)).toNat = leN (((nz kb 16).drop 16).take 16) := by unfold pS; omega
  rw [e]
  have h := bytesN_leN (((nz kb 16).drop 16).take 16)
  rw [hl] at h
  rw [h, List.take_of_length_le (by rw [List.length_drop, nz_length hk (by omega)]; omega)]

set_option maxRecDepth 100000 in
set_option maxHeartbeats 8000000 in
theorem polyNought_any (kb b : List UInt8) (bv : Value) (w : World) (hk : kb.length = 32) (hb : Row1 w bv (b.map bval)) :
    Calls Try.prog 7 #[.agg (kb.map bval).toArray, bv] w fun e w' => e = .returned (.bool true) ∧ Below w.heap.size w w' := by
  obtain ⟨iq, hq0, hq1, hq2⟩ := info_two (P := Try.prog) (t := 27) (z := .slice none 0 0) (n := 1) (by kernel_rfl)
  have HQ0 := Lib.hid hq0
  have HQ1 := Lib.hid hq1
  have HQ2 := Lib.hid hq2
  obtain ⟨i0, hi, hz0, hz1, hz2⟩ := info_parts Try.info5
  have HI0 := Lib.hid hi
  have HZ0 := Lib.hid hz0
  have HZ1 := Lib.hid hz1
  have HZ2 := Lib.hid hz2
  clear hi hz0 hz1 hz2 hq0 hq1 hq2
  obtain ⟨a, cap, hbv, r1, r2, _⟩ := id hb
  rw [List.length_map] at hbv r1
  subst hbv
  unfold maxLen at r2
  have HKL := Lib.hid hk
  have HRW := Lib.hid hb
  have HB1 : Hid (Blk (w.alloc (.cells (kb.map bval).toArray 23)) w.heap.size ((nz kb 0).map bval) 23) := Lib.hid (Blk.made w (kb.map bval) 23)
  have HE := Lib.hid (Ext.alloc w (.cells (kb.map bval).toArray 23))
  clear hk hb
  go_enter Try.func7, Try.ntmps7
  go_upto_region 1 with (fail)
  change Code.wp _ _ _ _ (w.alloc (.cells (kb.map bval).toArray 23))
  generalize w.alloc (.cells (kb.map bval).toArray 23) = w1 at *
  obtain ⟨B, hB⟩ : ∃ B, B = w.heap.size := ⟨_, rfl⟩
  have HBW : Hid (w.heap.size ≤ B) := Lib.hid (by omega)
  have HB1 := HB1.out
  rw [← hB] at HB1 ⊢
  have HB1 := Lib.hid HB1
  clear hB
  go_wp2_with fail
  refine (alive_any10 w1).mono ?_
  rintro e w2 ⟨rfl, hb⟩
  have HE := Lib.hid (HE.out.trans hb)
  have HB1 := Lib.hid (ext_blk HB1.out hb)
  clear hb
  by_cases h1 : 500 < b.length
  · have h1' : (500 : Int) < (b.length : Int) := by omega
    go_wp2_with fail
    go_ret
    exact ⟨rfl, HE.out⟩
  · have h1' : decide ((500 : Int) < (b.length : Int)) = false := decide_eq_false (by omega)
    have HBL : Hid (b.length ≤ 500) := Lib.hid (by omega)
    clear h1
    go_wp2_with fail
    go_loopw [6] (fun iv wr => ∃ (k : Nat), k ≤ 16 ∧ iv = .int .i64 (k : Int) ∧ Blk wr B ((nz kb k).map bval) 23 ∧ Ext w wr) (fun iv _ => 16 - (intOf iv).toNat)
    case atStart => exact ⟨0, by omega, rfl, HB1.out, HE.out⟩
    case round =>
      clear HB1 HE
      obtain ⟨k, hk, rfl, hb1, hbel⟩ := hrel
      have k0 : (0 : Int) ≤ (k : Int) := Int.natCast_nonneg _
      have HB1 := Lib.hid hb1
      have HE := Lib.hid hbel
      by_cases hlk : k < 16
      · have k1 : (k : Int) < 16 := by omega
        have k2 : (k : Int) < 32 := by omega
        obtain ⟨u6, c6⟩ : ∃ u, wr.cell? ⟨B, k, none⟩ = some u := ⟨_, by rw [hb1.cell, bval_get (by rw [nz_length HKL.out (by omega)]; omega)]⟩
        have f6 := hb1.free k
        clear hb1 hbel
        go_wp2_with fail
        go_roundw
        case rel => exact ⟨k + 1, by omega, by go_num, by rw [← nz_set_val HKL.out (by omega)]; exact HB1.out.set k _, Below.setCell HE.out (by have := HBW.out; simp; omega) _⟩
        case measure => simp [intOf]; omega
      · have hk16 : k = 16 := by omega
        subst hk16
        have HN : Hid (polyTag (nz kb 16) b = (nz kb 16).drop 16) := Lib.hid (tag_nought HKL.out b)
        have HNL : Hid ((nz kb 16).length = 32) := Lib.hid (nz_length HKL.out (by omega))
        have HR := Lib.hid (HRW.out.below HE.out)
        have HI1 : Hid ((Try.prog.info? 23).map (·.size) = some ((nz kb 16).map bval).length) := Lib.hid (num_size HNL.out)
        generalize nz kb 16 = z at *
        obtain ⟨tz, htz⟩ : ∃ tz, tz = z.drop 16 := ⟨_, rfl⟩
        have HZD : Hid (Row1 wr (.slice (some ⟨B, 16, none⟩) 16 16) (tz.map bval)) := Lib.hid (by rw [htz]; exact half_row HB1.out HNL.out)
        rw [← htz] at HN
        clear htz
        clear hb1 hbel
        go_wp2_with (refine wpList_load_blk rfl _ _ rfl B rfl _ _ _ _ HB1.out Try.underlying23 HI1.out ?_)
        refine (PSum_one z _ b wr HNL.out HR.out (by have := HBL.out; omega)).mono ?_
        rintro e w4 ⟨rfl, hb⟩
        have HTL := Lib.hid (polyTag_length z b)
        rw [HN.out] at HTL ⊢
        have HB1 := Lib.hid (ext_blk HB1.out hb)
        have HZD := Lib.hid (HZD.out.below hb)
        have HE := Lib.hid (HE.out.trans hb)
        clear hb HR
        have HZT := Lib.hid (Blk.made w4 (ints .u8 (List.replicate 16 0)) 30)
        have HEA := Lib.hid (Ext.alloc w4 (.cells (ints .u8 (List.replicate 16 0)).toArray 30))
        have HI3 : Hid ((Try.prog.info? 30).map (·.size) = some (tz.map bval).length) := Lib.hid (ptag_size HTL.out)
        have HLo : Hid ((tz.map bval).length = (ints .u8 (List.replicate 16 0)).length) := Lib.hid (by rw [List.length_map, HTL.out, ints_length, List.length_replicate])
        go_upto_region 9 with (refine wpList_store_blk rfl _ _ _ rfl w4.heap.size (tz.map bval) rfl rfl _ _ HZT.out HLo.out HI3.out (bval_one _) ?_; intro w6 hb6 hg6)
        have HE4 := Lib.hid (ext_grown HEA.out hg6 (Nat.le_refl _))
        have HE := Lib.hid (HE.out.trans HE4.out)
        have HB1 := Lib.hid (ext_blk HB1.out HE4.out)
        have HB3 := Lib.hid hb6
        obtain ⟨T, hT⟩ : ∃ T, T = w4.heap.size := ⟨_, rfl⟩
        rw [← hT] at HB3 ⊢
        have HR16 := Lib.hid (HZD.out.below HE4.out)
        clear hb6 hg6 HZT HEA HLo HE4 hT HN
        have B0 : Ext w6 w6.drew := Ext.drew _
        refine wp_region_held_drew (S := fun w' => Ext w6 w') (by kernel_rfl) B0 (fun hHeld => ?_)
        refine wpAnyH_take (i := 0) (v := .slice (some ⟨T, 0, none⟩) 16 16) rfl (by kernel_rfl) (by kernel_rfl) (by kernel_rfl) (fun _ _ _ h => h) (yi_slice _ _ _ _ (.pointer (some ⟨T, 0, none⟩)) (.slice (some ⟨T, 0, none⟩) 16 16) none none (by rfl) rfl rfl rfl rfl (fun w => cut_whole Try.underlying30 Try.sizeOf5 (by omega) _ w)) hHeld ?_
        simp only [Act.put, List.getElem_toArray, List.getElem_cons_zero, List.getElem_cons_succ, List.setIfInBounds_toArray, List.set_cons_zero, List.set_cons_succ]
        refine wpAnyH_take (i := 1) (v := .string ⟨(tz).toArray⟩) rfl (by kernel_rfl) (by kernel_rfl) (by kernel_rfl) (fun _ _ _ h => h) (yi_conv _ _ _ (.slice (some ⟨T, 0, none⟩) 16 16) _ (by rfl) rfl rfl (fun w h => run_string_row _ _ 5 Try.underlying27 Try.underlying5 Try.underlying9 ((blk_row (n := 16) HB3.out (by rw [List.length_map]; exact HTL.out) (by unfold maxLen; omega)).below h))) hHeld ?_
        simp only [Act.put, List.getElem_toArray, List.getElem_cons_zero, List.getElem_cons_succ, List.setIfInBounds_toArray, List.set_cons_zero, List.set_cons_succ]
        refine wpAnyH_take (i := 2) (v := .slice (some ⟨B, 16, none⟩) 16 16) rfl (by kernel_rfl) (by kernel_rfl) (by kernel_rfl) (fun _ _ _ h => h) (yi_slice _ _ _ _ (.pointer (some ⟨B, 0, none⟩)) (.slice (some ⟨B, 16, none⟩) 16 16) (some (.int .i64 16)) none (by rfl) rfl rfl rfl rfl (fun w => cut16 _ w)) hHeld ?_
        simp only [Act.put, List.getElem_toArray, List.getElem_cons_zero, List.getElem_cons_succ, List.setIfInBounds_toArray, List.set_cons_zero, List.set_cons_succ]
        refine wpAnyH_take (i := 3) (v := .string ⟨(tz).toArray⟩) rfl (by kernel_rfl) (by kernel_rfl) (by kernel_rfl) (fun _ _ _ h => h) (yi_conv _ _ _ (.slice (some ⟨B, 16, none⟩) 16 16) _ (by rfl) rfl rfl (fun w h => run_string_row _ _ 5 Try.underlying27 Try.underlying5 Try.underlying9 ((HR16.out).below h))) hHeld ?_
        simp only [Act.put, List.getElem_toArray, List.getElem_cons_zero, List.getElem_cons_succ, List.setIfInBounds_toArray, List.set_cons_zero, List.set_cons_succ]
        refine wpAnyH_take (i := 4) (v := .bool true) rfl (by kernel_rfl) (by kernel_rfl) (by kernel_rfl) (fun _ _ _ h => h) (yi_eqt _ _ _ _ (tz) (tz) true (decide_eq_true (rfl)) (by rfl) rfl rfl rfl) hHeld ?_
        simp only [Act.put, List.getElem_toArray, List.getElem_cons_zero, List.getElem_cons_succ, List.setIfInBounds_toArray, List.set_cons_zero, List.set_cons_succ]
        refine wpAnyH_ready (rs := [5]) (by kernel_rfl) (by simp) (AllReadyH.cons rfl (fun K hK => ?_) AllReadyH.nil)
        go_simp
        refine hK.out _ _ B0 (fun hHeld => ?_)
        clear hK K
        try simp only [Act.put, List.getElem_toArray, List.getElem_cons_zero, List.getElem_cons_succ, List.setIfInBounds_toArray, List.set_cons_zero, List.set_cons_succ]
        refine wpAnyH_done (by kernel_rfl) ?_ _
        go_wp2_with fail
        go_ret
        exact ⟨rfl, HE.out.trans B0⟩

end Go.Proofs.Ytelenldabjmjbaa
