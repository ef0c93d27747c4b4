/- Texts that belong together, one behind the other; each says in its own first remark what it shows. -/
import Derived.Test.YtelenldabjmjbaaAll2

/- The walk of PolySums. Laid by wip/gen/gply1.py. Each theorem names its own conditions. -/
namespace Go.Proofs.Ytelenldabjmjbaa
open Go.RowKit
set_option linter.unusedVariables false
set_option linter.unusedSimpArgs false

theorem PSum_val (kb : List UInt8) (v : Value) (ls : List (List UInt8)) (m : List UInt8) (w : World) (hk : kb.length = 32) (hv : RowB w v ls) (hf : ls.flatten = m) (hm : m.length ≤ 1099511627776) :
    Calls Try.prog 12 #[.agg (kb.map bval).toArray, v] w fun e w' => e = .returned (.agg ((polyTag kb m).map bval).toArray) ∧ Below w.heap.size w w' := by
  subst hf
  exact PSum_num kb v ls w hk hv hm
theorem PSum_one (kb : List UInt8) (x : Value) (l : List UInt8) (w : World) (hk : kb.length = 32) (hx : Row1 w x (l.map bval)) (hl : l.length ≤ 1099511627776) :
    Calls Try.prog 12 #[.agg (kb.map bval).toArray, .slice (some ⟨w.heap.size, 0, none⟩) 1 1] (w.alloc (.cells #[x] 27)) fun e w' => e = .returned (.agg ((polyTag kb l).map bval).toArray) ∧ Ext w w' := by
  have he := Ext.alloc w (.cells #[x] 27)
  have h := PSum_val kb _ [l] l _ hk (rowB1 (Row1.made w #[x] 27 _ 1 [x] rfl rfl rfl (by unfold maxLen; omega)) (hx.below he)) (by simp) hl
  exact h.mono fun e w' hh => ⟨hh.1, he.trans hh.2⟩

set_option maxRecDepth 100000 in
set_option maxHeartbeats 8000000 in
theorem polySums_any (kb : List UInt8) (v : Value) (ls : List (List UInt8)) (w : World) (hk : kb.length = 32) (hv : RowB w v ls) :
    Calls Try.prog 3 #[.agg (kb.map bval).toArray, v] w fun e w' => e = .returned (.bool true) ∧ Below w.heap.size w w' := by
  obtain ⟨iq, hq0, hq1, hq2⟩ := info_two (P := Try.prog) (t := 27) (z := .slice none 0 0) (n := 1) (by kernel_rfl)
  have HQ0 := Lib.hid hq0
  have HQ1 := Lib.hid hq1
  have HQ2 := Lib.hid hq2
  obtain ⟨i0, hi, hz0, hz1, hz2⟩ := info_parts Try.info5
  have HI0 := Lib.hid hi
  have HZ0 := Lib.hid hz0
  have HZ1 := Lib.hid hz1
  have HZ2 := Lib.hid hz2
  clear hi hz0 hz1 hz2 hq0 hq1 hq2
  obtain ⟨a, cap, rfl⟩ := rowB_any hv
  have HKL := Lib.hid hk
  have HRB := Lib.hid hv
  have HB1 := Lib.hid (Blk.made w (kb.map bval) 23)
  have HE := Lib.hid (Ext.alloc w (.cells (kb.map bval).toArray 23))
  have HI1 : Hid ((Try.prog.info? 23).map (·.size) = some (kb.map bval).length) := Lib.hid (num_size hk)
  clear hk hv
  go_enter Try.func3, Try.ntmps3
  go_upto_region 1 with (fail)
  change Code.wp _ _ _ _ (w.alloc (.cells (kb.map bval).toArray 23))
  have HRB := Lib.hid (HRB.out.below HE.out)
  generalize w.alloc (.cells (kb.map bval).toArray 23) = w1 at *
  obtain ⟨B, hB⟩ : ∃ B, B = w.heap.size := ⟨_, rfl⟩
  have HB1 := HB1.out
  rw [← hB] at HB1 ⊢
  have HB1 := Lib.hid HB1
  clear hB
  go_wp2_with fail
  refine (alive_any10 w1).mono ?_
  rintro e w2 ⟨rfl, hb⟩
  have HE := Lib.hid (HE.out.trans hb)
  have HB1 := Lib.hid (ext_blk HB1.out hb)
  have HRB := Lib.hid (HRB.out.below hb)
  clear hb
  go_wp2_with fail
  refine (big_any (.slice a ls.length cap) ls w2 HRB.out).mono ?_
  rintro e w3 ⟨rfl, rfl⟩
  cases hbig : bigB ls with
  | true =>
    clear hbig
    go_wp2_with fail
    go_ret
    exact ⟨rfl, HE.out⟩
  | false =>
    have hll := small_flat hbig
    clear hbig
    obtain ⟨m, hm⟩ : ∃ m, m = ls.flatten := ⟨_, rfl⟩
    rw [← hm] at hll
    have HMM := Lib.hid hm
    have HML : Hid (m.length ≤ 1099511627776) := Lib.hid (by omega)
    clear hll hm
    go_wp2_with fail
    refine (join_any (.slice a ls.length cap) ls w2 HRB.out (by rw [← HMM.out]; exact HML.out)).mono ?_
    rintro e w4 ⟨x, rfl, hx, hb⟩
    rw [← HMM.out] at hx
    have HX := Lib.hid hx
    obtain ⟨ax, cx, hxv, _⟩ := id hx
    rw [List.length_map] at hxv
    subst hxv
    have HE := Lib.hid (HE.out.trans hb)
    have HB1 := Lib.hid (ext_blk HB1.out hb)
    have HRB := Lib.hid (HRB.out.below hb)
    clear hb hx
    go_wp2_with (refine wpList_load_blk rfl _ _ rfl B rfl _ _ _ _ HB1.out Try.underlying23 HI1.out ?_)
    refine (rPoly_any kb m _ w4 HKL.out HX.out HML.out).mono ?_
    rintro e w5 ⟨rfl, hb⟩
    have HE := Lib.hid (HE.out.trans hb)
    have HB1 := Lib.hid (ext_blk HB1.out hb)
    have HRB := Lib.hid (HRB.out.below hb)
    have HX := Lib.hid (HX.out.below hb)
    clear hb
    have HZT := Lib.hid (Blk.made w5 (ints .u8 (List.replicate 16 0)) 30)
    have HEA := Lib.hid (Ext.alloc w5 (.cells (ints .u8 (List.replicate 16 0)).toArray 30))
    have HI3 : Hid ((Try.prog.info? 30).map (·.size) = some ((polyTag kb m).map bval).length) := Lib.hid (ptag_size (polyTag_length _ _))
    have HLo : Hid (((polyTag kb m).map bval).length = (ints .u8 (List.replicate 16 0)).length) := Lib.hid (by rw [List.length_map, polyTag_length, ints_length, List.length_replicate])
    go_upto_region 7 with (refine wpList_store_blk rfl _ _ _ rfl w5.heap.size ((polyTag kb m).map bval) rfl rfl _ _ HZT.out HLo.out HI3.out (bval_one _) ?_; intro w6 hb6 hg6)
    have HE4 := Lib.hid (ext_grown HEA.out hg6 (Nat.le_refl _))
    have HE := Lib.hid (HE.out.trans HE4.out)
    have HB1 := Lib.hid (ext_blk HB1.out HE4.out)
    have HRB := Lib.hid (HRB.out.below HE4.out)
    have HX := Lib.hid (HX.out.below HE4.out)
    have HB3 := Lib.hid hb6
    obtain ⟨T, hT⟩ : ∃ T, T = w5.heap.size := ⟨_, rfl⟩
    rw [← hT] at HB3 ⊢
    clear hb6 hg6 HZT HEA HLo HE4 hT
    have B0 : Ext w6 w6.drew := Ext.drew _
    refine wp_region_held_drew (S := fun w' => Ext w6 w') (by kernel_rfl) B0 (fun hHeld => ?_)
    refine wpAnyH_take (i := 0) (v := .agg ((kb).map bval).toArray) rfl (by kernel_rfl) (by kernel_rfl) (by kernel_rfl) (fun _ _ _ h => h) (yieldsIf_load_mid (by rfl) _ _ rfl B 0 rfl _ _ (fun w h => bl_range HB1.out h) Try.underlying23 rfl HI1.out) hHeld ?_
    simp only [Act.put, List.getElem_toArray, List.getElem_cons_zero, List.getElem_cons_succ, List.setIfInBounds_toArray, List.set_cons_zero, List.set_cons_succ]
    refine wpAnyH_take (i := 1) (v := .slice a ls.length cap) rfl (by kernel_rfl) (by kernel_rfl) (by kernel_rfl) (fun _ _ _ h => h) (yi_move _ (.slice a ls.length cap) (by rfl) rfl rfl) hHeld ?_
    simp only [Act.put, List.getElem_toArray, List.getElem_cons_zero, List.getElem_cons_succ, List.setIfInBounds_toArray, List.set_cons_zero, List.set_cons_succ]
    refine wpAnyH_take (i := 3) (v := .agg ((polyTag kb m).map bval).toArray) rfl (by kernel_rfl) (by kernel_rfl) (by kernel_rfl) (fun _ _ _ h => h) (yieldsIf_load_mid (by rfl) _ _ rfl T 0 rfl _ _ (fun w h => bl_range HB3.out h) Try.underlying30 rfl HI3.out) hHeld ?_
    simp only [Act.put, List.getElem_toArray, List.getElem_cons_zero, List.getElem_cons_succ, List.setIfInBounds_toArray, List.set_cons_zero, List.set_cons_succ]
    refine wpAnyH_ready (rs := [2]) (by kernel_rfl) (by simp) (AllReadyH.cons rfl (fun K hK => ?_) AllReadyH.nil)
    go_simp
    refine (PSum_val kb (.slice a ls.length cap) _ m _ HKL.out (HRB.out.below B0) HMM.out.symm HML.out).mono ?_
    rintro e m1 ⟨rfl, b1⟩
    have N1 : Ext w6 m1 := B0.trans b1
    refine hK.out _ _ N1 (fun hHeld => ?_)
    clear hK K
    try simp only [Act.put, List.getElem_toArray, List.getElem_cons_zero, List.getElem_cons_succ, List.setIfInBounds_toArray, List.set_cons_zero, List.set_cons_succ]
    refine wpAnyH_take (i := 4) (v := .bool true) rfl (by kernel_rfl) (by kernel_rfl) (by kernel_rfl) (fun _ _ _ h => h) (yi_eql _ _ _ _ _ 16 _ (polyTag kb m) (polyTag kb m) true (by rfl) rfl (decide_eq_true (rfl)) Try.underlying30 Try.underlying5 num_info num_cells tag_guard rfl rfl (polyTag_length _ _) (polyTag_length _ _)) hHeld ?_
    simp only [Act.put, List.getElem_toArray, List.getElem_cons_zero, List.getElem_cons_succ, List.setIfInBounds_toArray, List.set_cons_zero, List.set_cons_succ]
    refine wpAnyH_take (i := 5) (v := .bool true) rfl (by kernel_rfl) (by kernel_rfl) (by kernel_rfl) (fun _ _ _ h => h) (yi_move _ (.bool true) (by rfl) rfl rfl) hHeld ?_
    simp only [Act.put, List.getElem_toArray, List.getElem_cons_zero, List.getElem_cons_succ, List.setIfInBounds_toArray, List.set_cons_zero, List.set_cons_succ]
    refine wpAnyH_take (i := 6) (v := .agg ((kb).map bval).toArray) rfl (by kernel_rfl) (by kernel_rfl) (by kernel_rfl) (fun _ _ _ h => h) (yieldsIf_load_mid (by rfl) _ _ rfl B 0 rfl _ _ (fun w h => bl_range HB1.out h) Try.underlying23 rfl HI1.out) hHeld ?_
    simp only [Act.put, List.getElem_toArray, List.getElem_cons_zero, List.getElem_cons_succ, List.setIfInBounds_toArray, List.set_cons_zero, List.set_cons_succ]
    refine wpAnyH_take (i := 7) (v := .slice ax m.length cx) rfl (by kernel_rfl) (by kernel_rfl) (by kernel_rfl) (fun _ _ _ h => h) (yi_move _ (.slice ax m.length cx) (by rfl) rfl rfl) hHeld ?_
    simp only [Act.put, List.getElem_toArray, List.getElem_cons_zero, List.getElem_cons_succ, List.setIfInBounds_toArray, List.set_cons_zero, List.set_cons_succ]
    refine wpAnyH_take (i := 10) (v := .agg ((polyTag kb m).map bval).toArray) rfl (by kernel_rfl) (by kernel_rfl) (by kernel_rfl) (fun _ _ _ h => h) (yieldsIf_load_mid (by rfl) _ _ rfl T 0 rfl _ _ (fun w h => bl_range HB3.out h) Try.underlying30 rfl HI3.out) hHeld ?_
    simp only [Act.put, List.getElem_toArray, List.getElem_cons_zero, List.getElem_cons_succ, List.setIfInBounds_toArray, List.set_cons_zero, List.set_cons_succ]
    refine wpAnyH_ready (rs := [8]) (by kernel_rfl) (by simp) (AllReadyH.cons rfl (fun K hK => ?_) AllReadyH.nil)
    refine step_wp (by rfl) ?_
    refine wp_buildSlice_d (some 31) _ _ _ _ rfl rfl #[.slice ax m.length cx] iq (.slice none 0 0) Try.underlying24 HQ0.out HQ1.out (by rw [HQ2.out]; decide) (by rw [HQ2.out]; decide) (by rw [HQ2.out]; kernel_rfl) ?_
    obtain ⟨m2, hm2⟩ : ∃ wNew, wNew = World.alloc m1 (.cells #[.slice ax m.length cx] 27) := ⟨_, rfl⟩
    rw [← hm2]
    have b2 : Ext m1 m2 := by rw [hm2]; exact Ext.alloc _ _
    obtain ⟨g2, hg2⟩ : ∃ gNew, gNew = (m1).heap.size := ⟨_, rfl⟩
    rw [← hg2]
    have r2 : Row1 m2 (.slice (some ⟨g2, 0, none⟩) 1 1) [.slice ax m.length cx] := by rw [hm2, hg2]; exact Row1.made _ _ _ _ _ _ rfl rfl rfl (by unfold maxLen; omega)
    clear hm2 hg2
    have N2 : Ext w6 m2 := N1.trans b2
    refine hK.out _ _ N2 (fun hHeld => ?_)
    clear hK K
    try simp only [Act.put, List.getElem_toArray, List.getElem_cons_zero, List.getElem_cons_succ, List.setIfInBounds_toArray, List.set_cons_zero, List.set_cons_succ]
    refine wpAnyH_ready (rs := [9]) (by kernel_rfl) (by simp) (AllReadyH.cons rfl (fun K hK => ?_) AllReadyH.nil)
    go_simp
    refine (PSum_val (kb) (.slice (some ⟨g2, 0, none⟩) 1 1) _ (m) _ HKL.out (rowB1 r2 ((HX.out).below N2)) (by simp) (HML.out)).mono ?_
    rintro e m3 ⟨rfl, b3⟩
    have r2 := r2.below b3
    have N3 : Ext w6 m3 := N2.trans b3
    refine hK.out _ _ N3 (fun hHeld => ?_)
    clear hK K
    try simp only [Act.put, List.getElem_toArray, List.getElem_cons_zero, List.getElem_cons_succ, List.setIfInBounds_toArray, List.set_cons_zero, List.set_cons_succ]
    refine wpAnyH_take (i := 11) (v := .bool true) rfl (by kernel_rfl) (by kernel_rfl) (by kernel_rfl) (fun _ _ _ h => h) (yi_eql _ _ _ _ _ 16 _ (polyTag (kb) (m)) (polyTag kb m) true (by rfl) rfl (decide_eq_true (rfl)) Try.underlying30 Try.underlying5 num_info num_cells tag_guard rfl rfl (polyTag_length _ _) (polyTag_length _ _)) hHeld ?_
    simp only [Act.put, List.getElem_toArray, List.getElem_cons_zero, List.getElem_cons_succ, List.setIfInBounds_toArray, List.set_cons_zero, List.set_cons_succ]
    refine wpAnyH_take (i := 12) (v := .bool true) rfl (by kernel_rfl) (by kernel_rfl) (by kernel_rfl) (fun _ _ _ h => h) (yi_pick _ _ _ true _ (by rfl) rfl rfl rfl) hHeld ?_
    simp only [Act.put, List.getElem_toArray, List.getElem_cons_zero, List.getElem_cons_succ, List.setIfInBounds_toArray, List.set_cons_zero, List.set_cons_succ]
    refine wpAnyH_ready (rs := [13]) (by kernel_rfl) (by simp) (AllReadyH.cons rfl (fun K hK => ?_) AllReadyH.nil)
    go_simp
    refine hK.out _ _ N3 (fun hHeld => ?_)
    clear hK K
    try simp only [Act.put, List.getElem_toArray, List.getElem_cons_zero, List.getElem_cons_succ, List.setIfInBounds_toArray, List.set_cons_zero, List.set_cons_succ]
    refine wpAnyH_done (by kernel_rfl) ?_ _
    go_wp2_with fail
    go_ret
    exact ⟨rfl, HE.out.trans N3⟩

end Go.Proofs.Ytelenldabjmjbaa

/- The walk of PolyCuts. Laid by wip/gen/gply1.py. Each theorem names its own conditions. -/
namespace Go.Proofs.Ytelenldabjmjbaa
open Go.RowKit
set_option linter.unusedVariables false
set_option linter.unusedSimpArgs false

set_option maxRecDepth 100000 in
set_option maxHeartbeats 8000000 in
theorem polyCuts_any (kb b : List UInt8) (bv : Value) (i k : Int) (w : World) (hk : kb.length = 32) (hb : Row1 w bv (b.map bval)) (hi1 : -9223372036854775808 ≤ i) (hi2 : i ≤ 9223372036854775807) (hk1 : -9223372036854775808 ≤ k) (hk2 : k ≤ 9223372036854775807) :
    Calls Try.prog 6 #[.agg (kb.map bval).toArray, bv, .int .i64 i, .int .i64 k] w fun e w' => e = .returned (.bool true) ∧ Below w.heap.size w w' := by
  obtain ⟨iq, hq0, hq1, hq2⟩ := info_two (P := Try.prog) (t := 27) (z := .slice none 0 0) (n := 1) (by kernel_rfl)
  have HQ0 := Lib.hid hq0
  have HQ1 := Lib.hid hq1
  have HQ2 := Lib.hid hq2
  obtain ⟨i0, hi, hz0, hz1, hz2⟩ := info_parts Try.info5
  have HI0 := Lib.hid hi
  have HZ0 := Lib.hid hz0
  have HZ1 := Lib.hid hz1
  have HZ2 := Lib.hid hz2
  clear hi hz0 hz1 hz2 hq0 hq1 hq2
  obtain ⟨a, cap, hbv, r1, r2, _⟩ := id hb
  rw [List.length_map] at hbv r1
  subst hbv
  unfold maxLen at r2
  have HKL := Lib.hid hk
  have HRW := Lib.hid hb
  have HB1 : Hid (Blk (w.alloc (.cells (kb.map bval).toArray 23)) w.heap.size (kb.map bval) 23) := Lib.hid (Blk.made w (kb.map bval) 23)
  have HE := Lib.hid (Ext.alloc w (.cells (kb.map bval).toArray 23))
  have HI1 : Hid ((Try.prog.info? 23).map (·.size) = some (kb.map bval).length) := Lib.hid (num_size hk)
  clear hk hb
  go_enter Try.func6, Try.ntmps6
  go_upto_region 1 with (fail)
  change Code.wp _ _ _ _ (w.alloc (.cells (kb.map bval).toArray 23))
  generalize w.alloc (.cells (kb.map bval).toArray 23) = w1 at *
  obtain ⟨B, hB⟩ : ∃ B, B = w.heap.size := ⟨_, rfl⟩
  have HB1 := HB1.out
  rw [← hB] at HB1 ⊢
  have HB1 := Lib.hid HB1
  clear hB
  go_wp2_with fail
  refine (alive_any10 w1).mono ?_
  rintro e w2 ⟨rfl, hb⟩
  have HE := Lib.hid (HE.out.trans hb)
  have HB1 := Lib.hid (ext_blk HB1.out hb)
  have HR := Lib.hid (HRW.out.below HE.out)
  clear hb
  by_cases h1 : 500 < b.length
  · have h1' : (500 : Int) < (b.length : Int) := by omega
    go_wp2_with fail
    go_ret
    exact ⟨rfl, HE.out⟩
  · have h1' : decide ((500 : Int) < (b.length : Int)) = false := decide_eq_false (by omega)
    have HBL : Hid (b.length ≤ 500) := Lib.hid (by omega)
    clear h1
    by_cases h2 : i < 0
    · go_wp2_with fail
      go_ret
      exact ⟨rfl, HE.out⟩
    · have h2' : decide (i < 0) = false := decide_eq_false h2
      by_cases h3 : k < i
      · go_wp2_with fail
        go_ret
        exact ⟨rfl, HE.out⟩
      · have h3' : decide (k < i) = false := decide_eq_false h3
        by_cases h4 : (b.length : Int) < k
        · go_wp2_with fail
          go_ret
          exact ⟨rfl, HE.out⟩
        · have h4' : decide ((b.length : Int) < k) = false := decide_eq_false h4
          obtain ⟨p, rfl⟩ : ∃ p : Nat, i = (p : Int) := ⟨i.toNat, by omega⟩
          obtain ⟨q, rfl⟩ : ∃ q : Nat, k = (q : Int) := ⟨k.toNat, by omega⟩
          have HPQ : Hid (p ≤ q) := Lib.hid (by omega)
          have hql : q ≤ (b.map bval).length := by rw [List.length_map]; omega
          obtain ⟨vu, hu, su⟩ := row_upto Try.underlying27 Try.sizeOf5 HR.out p (Nat.le_trans HPQ.out hql)
          obtain ⟨vm, hm, sm⟩ := row_mid Try.underlying27 Try.sizeOf5 HR.out p q HPQ.out hql
          obtain ⟨vd, hd, sd⟩ := row_cut Try.underlying27 Try.sizeOf5 HR.out q hql
          obtain ⟨au, nu, cu, rfl⟩ := row_form2 hu
          obtain ⟨am, nm, cm, rfl⟩ := row_form2 hm
          obtain ⟨ad, nd, cd, rfl⟩ := row_form2 hd
          rw [← List.map_take] at hu
          rw [← List.map_drop, ← List.map_take] at hm
          rw [← List.map_drop] at hd
          have HU := Lib.hid hu
          have HM := Lib.hid hm
          have HD := Lib.hid hd
          have HSU := Lib.hid su
          have HSM := Lib.hid sm
          have HSD := Lib.hid sd
          clear hu hm hd su sm sd hql
          go_upto_region 4 with (fail)
          have B0 : Ext w2 w2.drew := Ext.drew _
          refine wp_region_held_drew (S := fun w' => Ext w2 w') (by kernel_rfl) B0 (fun hHeld => ?_)
          refine wpAnyH_take (i := 0) (v := .agg ((kb).map bval).toArray) rfl (by kernel_rfl) (by kernel_rfl) (by kernel_rfl) (fun _ _ _ h => h) (yieldsIf_load_mid (by rfl) _ _ rfl B 0 rfl _ _ (fun w h => bl_range HB1.out h) Try.underlying23 rfl HI1.out) hHeld ?_
          simp only [Act.put, List.getElem_toArray, List.getElem_cons_zero, List.getElem_cons_succ, List.setIfInBounds_toArray, List.set_cons_zero, List.set_cons_succ]
          refine wpAnyH_take (i := 1) (v := .slice a b.length cap) rfl (by kernel_rfl) (by kernel_rfl) (by kernel_rfl) (fun _ _ _ h => h) (yi_move _ (.slice a b.length cap) (by rfl) rfl rfl) hHeld ?_
          simp only [Act.put, List.getElem_toArray, List.getElem_cons_zero, List.getElem_cons_succ, List.setIfInBounds_toArray, List.set_cons_zero, List.set_cons_succ]
          refine wpAnyH_take (i := 4) (v := .agg ((kb).map bval).toArray) rfl (by kernel_rfl) (by kernel_rfl) (by kernel_rfl) (fun _ _ _ h => h) (yieldsIf_load_mid (by rfl) _ _ rfl B 0 rfl _ _ (fun w h => bl_range HB1.out h) Try.underlying23 rfl HI1.out) hHeld ?_
          simp only [Act.put, List.getElem_toArray, List.getElem_cons_zero, List.getElem_cons_succ, List.setIfInBounds_toArray, List.set_cons_zero, List.set_cons_succ]
          refine wpAnyH_take (i := 5) (v := .slice a b.length cap) rfl (by kernel_rfl) (by kernel_rfl) (by kernel_rfl) (fun _ _ _ h => h) (yi_move _ (.slice a b.length cap) (by rfl) rfl rfl) hHeld ?_
          simp only [Act.put, List.getElem_toArray, List.getElem_cons_zero, List.getElem_cons_succ, List.setIfInBounds_toArray, List.set_cons_zero, List.set_cons_succ]
          refine wpAnyH_take (i := 6) (v := .int .i64 ((p : Nat) : Int)) rfl (by kernel_rfl) (by kernel_rfl) (by kernel_rfl) (fun _ _ _ h => h) (yi_move _ (.int .i64 ((p : Nat) : Int)) (by rfl) rfl rfl) hHeld ?_
          simp only [Act.put, List.getElem_toArray, List.getElem_cons_zero, List.getElem_cons_succ, List.setIfInBounds_toArray, List.set_cons_zero, List.set_cons_succ]
          refine wpAnyH_take (i := 7) (v := .slice au nu cu) rfl (by kernel_rfl) (by kernel_rfl) (by kernel_rfl) (fun _ _ _ h => h) (yi_slice _ _ _ _ (.slice a b.length cap) (.slice au nu cu) none (some (.int .i64 ((p : Nat) : Int))) (by rfl) rfl rfl rfl rfl HSU.out) hHeld ?_
          simp only [Act.put, List.getElem_toArray, List.getElem_cons_zero, List.getElem_cons_succ, List.setIfInBounds_toArray, List.set_cons_zero, List.set_cons_succ]
          refine wpAnyH_take (i := 8) (v := .slice a b.length cap) rfl (by kernel_rfl) (by kernel_rfl) (by kernel_rfl) (fun _ _ _ h => h) (yi_move _ (.slice a b.length cap) (by rfl) rfl rfl) hHeld ?_
          simp only [Act.put, List.getElem_toArray, List.getElem_cons_zero, List.getElem_cons_succ, List.setIfInBounds_toArray, List.set_cons_zero, List.set_cons_succ]
          refine wpAnyH_take (i := 9) (v := .int .i64 ((p : Nat) : Int)) rfl (by kernel_rfl) (by kernel_rfl) (by kernel_rfl) (fun _ _ _ h => h) (yi_move _ (.int .i64 ((p : Nat) : Int)) (by rfl) rfl rfl) hHeld ?_
          simp only [Act.put, List.getElem_toArray, List.getElem_cons_zero, List.getElem_cons_succ, List.setIfInBounds_toArray, List.set_cons_zero, List.set_cons_succ]
          refine wpAnyH_take (i := 10) (v := .int .i64 ((q : Nat) : Int)) rfl (by kernel_rfl) (by kernel_rfl) (by kernel_rfl) (fun _ _ _ h => h) (yi_move _ (.int .i64 ((q : Nat) : Int)) (by rfl) rfl rfl) hHeld ?_
          simp only [Act.put, List.getElem_toArray, List.getElem_cons_zero, List.getElem_cons_succ, List.setIfInBounds_toArray, List.set_cons_zero, List.set_cons_succ]
          refine wpAnyH_take (i := 11) (v := .slice am nm cm) rfl (by kernel_rfl) (by kernel_rfl) (by kernel_rfl) (fun _ _ _ h => h) (yi_slice _ _ _ _ (.slice a b.length cap) (.slice am nm cm) (some (.int .i64 ((p : Nat) : Int))) (some (.int .i64 ((q : Nat) : Int))) (by rfl) rfl rfl rfl rfl HSM.out) hHeld ?_
          simp only [Act.put, List.getElem_toArray, List.getElem_cons_zero, List.getElem_cons_succ, List.setIfInBounds_toArray, List.set_cons_zero, List.set_cons_succ]
          refine wpAnyH_take (i := 12) (v := .slice a b.length cap) rfl (by kernel_rfl) (by kernel_rfl) (by kernel_rfl) (fun _ _ _ h => h) (yi_move _ (.slice a b.length cap) (by rfl) rfl rfl) hHeld ?_
          simp only [Act.put, List.getElem_toArray, List.getElem_cons_zero, List.getElem_cons_succ, List.setIfInBounds_toArray, List.set_cons_zero, List.set_cons_succ]
          refine wpAnyH_take (i := 13) (v := .int .i64 ((q : Nat) : Int)) rfl (by kernel_rfl) (by kernel_rfl) (by kernel_rfl) (fun _ _ _ h => h) (yi_move _ (.int .i64 ((q : Nat) : Int)) (by rfl) rfl rfl) hHeld ?_
          simp only [Act.put, List.getElem_toArray, List.getElem_cons_zero, List.getElem_cons_succ, List.setIfInBounds_toArray, List.set_cons_zero, List.set_cons_succ]
          refine wpAnyH_take (i := 14) (v := .slice ad nd cd) rfl (by kernel_rfl) (by kernel_rfl) (by kernel_rfl) (fun _ _ _ h => h) (yi_slice _ _ _ _ (.slice a b.length cap) (.slice ad nd cd) (some (.int .i64 ((q : Nat) : Int))) none (by rfl) rfl rfl rfl rfl HSD.out) hHeld ?_
          simp only [Act.put, List.getElem_toArray, List.getElem_cons_zero, List.getElem_cons_succ, List.setIfInBounds_toArray, List.set_cons_zero, List.set_cons_succ]
          refine wpAnyH_ready (rs := [2, 15]) (by kernel_rfl) (by simp) (AllReadyH.cons rfl (fun K hK => ?_) (AllReadyH.cons rfl (fun K hK => ?_) AllReadyH.nil))
          · refine step_wp (by rfl) ?_
            refine wp_buildSlice_d (some 36) _ _ _ _ rfl rfl #[.slice a b.length cap] iq (.slice none 0 0) Try.underlying24 HQ0.out HQ1.out (by rw [HQ2.out]; decide) (by rw [HQ2.out]; decide) (by rw [HQ2.out]; kernel_rfl) ?_
            obtain ⟨m1, hm1⟩ : ∃ wNew, wNew = World.alloc w2.drew (.cells #[.slice a b.length cap] 27) := ⟨_, rfl⟩
            rw [← hm1]
            have b1 : Ext w2.drew m1 := by rw [hm1]; exact Ext.alloc _ _
            obtain ⟨g1, hg1⟩ : ∃ gNew, gNew = (w2.drew).heap.size := ⟨_, rfl⟩
            rw [← hg1]
            have r1 : Row1 m1 (.slice (some ⟨g1, 0, none⟩) 1 1) [.slice a b.length cap] := by rw [hm1, hg1]; exact Row1.made _ _ _ _ _ _ rfl rfl rfl (by unfold maxLen; omega)
            clear hm1 hg1
            have N1 : Ext w2 m1 := B0.trans b1
            refine hK.out _ _ N1 (fun hHeld => ?_)
            clear hK K
            try simp only [Act.put, List.getElem_toArray, List.getElem_cons_zero, List.getElem_cons_succ, List.setIfInBounds_toArray, List.set_cons_zero, List.set_cons_succ]
            refine wpAnyH_ready (rs := [3, 15]) (by kernel_rfl) (by simp) (AllReadyH.cons rfl (fun K hK => ?_) (AllReadyH.cons rfl (fun K hK => ?_) AllReadyH.nil))
            · go_simp
              refine (PSum_val (kb) (.slice (some ⟨g1, 0, none⟩) 1 1) _ (b) _ HKL.out (rowB1 r1 ((HR.out).below N1)) (by simp) (by have := HBL.out; omega)).mono ?_
              rintro e m2 ⟨rfl, b2⟩
              have r1 := r1.below b2
              have N2 : Ext w2 m2 := N1.trans b2
              refine hK.out _ _ N2 (fun hHeld => ?_)
              clear hK K
              try simp only [Act.put, List.getElem_toArray, List.getElem_cons_zero, List.getElem_cons_succ, List.setIfInBounds_toArray, List.set_cons_zero, List.set_cons_succ]
              refine wpAnyH_ready (rs := [15]) (by kernel_rfl) (by simp) (AllReadyH.cons rfl (fun K hK => ?_) AllReadyH.nil)
              refine step_wp (by rfl) ?_
              refine wp_buildSlice_d (some 49) _ _ _ _ rfl rfl #[.slice au nu cu, .slice am nm cm, .slice ad nd cd] iq (.slice none 0 0) Try.underlying24 HQ0.out HQ1.out (by rw [HQ2.out]; decide) (by rw [HQ2.out]; decide) (by rw [HQ2.out]; kernel_rfl) ?_
              obtain ⟨m3, hm3⟩ : ∃ wNew, wNew = World.alloc m2 (.cells #[.slice au nu cu, .slice am nm cm, .slice ad nd cd] 27) := ⟨_, rfl⟩
              rw [← hm3]
              have b3 : Ext m2 m3 := by rw [hm3]; exact Ext.alloc _ _
              obtain ⟨g3, hg3⟩ : ∃ gNew, gNew = (m2).heap.size := ⟨_, rfl⟩
              rw [← hg3]
              have r1 := r1.below b3
              have r3 : Row1 m3 (.slice (some ⟨g3, 0, none⟩) 3 3) [.slice au nu cu, .slice am nm cm, .slice ad nd cd] := by rw [hm3, hg3]; exact Row1.made _ _ _ _ _ _ rfl rfl rfl (by unfold maxLen; omega)
              clear hm3 hg3
              have N3 : Ext w2 m3 := N2.trans b3
              refine hK.out _ _ N3 (fun hHeld => ?_)
              clear hK K
              try simp only [Act.put, List.getElem_toArray, List.getElem_cons_zero, List.getElem_cons_succ, List.setIfInBounds_toArray, List.set_cons_zero, List.set_cons_succ]
              refine wpAnyH_ready (rs := [16]) (by kernel_rfl) (by simp) (AllReadyH.cons rfl (fun K hK => ?_) AllReadyH.nil)
              go_simp
              refine (PSum_val (kb) (.slice (some ⟨g3, 0, none⟩) 3 3) _ (b) _ HKL.out (rowB3 r3 ((HU.out).below N3) ((HM.out).below N3) ((HD.out).below N3)) (cut3 b p q HPQ.out) (by have := HBL.out; omega)).mono ?_
              rintro e m4 ⟨rfl, b4⟩
              have r1 := r1.below b4
              have r3 := r3.below b4
              have N4 : Ext w2 m4 := N3.trans b4
              refine hK.out _ _ N4 (fun hHeld => ?_)
              clear hK K
              try simp only [Act.put, List.getElem_toArray, List.getElem_cons_zero, List.getElem_cons_succ, List.setIfInBounds_toArray, List.set_cons_zero, List.set_cons_succ]
              refine wpAnyH_take (i := 17) (v := .bool true) rfl (by kernel_rfl) (by kernel_rfl) (by kernel_rfl) (fun _ _ _ h => h) (yi_eql _ _ _ _ _ 16 _ (polyTag (kb) (b)) (polyTag (kb) (b)) true (by rfl) rfl (decide_eq_true (rfl)) Try.underlying30 Try.underlying5 num_info num_cells tag_guard rfl rfl (polyTag_length _ _) (polyTag_length _ _)) hHeld ?_
              simp only [Act.put, List.getElem_toArray, List.getElem_cons_zero, List.getElem_cons_succ, List.setIfInBounds_toArray, List.set_cons_zero, List.set_cons_succ]
              refine wpAnyH_ready (rs := [18]) (by kernel_rfl) (by simp) (AllReadyH.cons rfl (fun K hK => ?_) AllReadyH.nil)
              go_simp
              refine hK.out _ _ N4 (fun hHeld => ?_)
              clear hK K
              try simp only [Act.put, List.getElem_toArray, List.getElem_cons_zero, List.getElem_cons_succ, List.setIfInBounds_toArray, List.set_cons_zero, List.set_cons_succ]
              refine wpAnyH_done (by kernel_rfl) ?_ _
              go_wp2_with fail
              go_ret
              exact ⟨rfl, HE.out.trans N4⟩
            · refine step_wp (by rfl) ?_
              refine wp_buildSlice_d (some 49) _ _ _ _ rfl rfl #[.slice au nu cu, .slice am nm cm, .slice ad nd cd] iq (.slice none 0 0) Try.underlying24 HQ0.out HQ1.out (by rw [HQ2.out]; decide) (by rw [HQ2.out]; decide) (by rw [HQ2.out]; kernel_rfl) ?_
              obtain ⟨m2, hm2⟩ : ∃ wNew, wNew = World.alloc m1 (.cells #[.slice au nu cu, .slice am nm cm, .slice ad nd cd] 27) := ⟨_, rfl⟩
              rw [← hm2]
              have b2 : Ext m1 m2 := by rw [hm2]; exact Ext.alloc _ _
              obtain ⟨g2, hg2⟩ : ∃ gNew, gNew = (m1).heap.size := ⟨_, rfl⟩
              rw [← hg2]
              have r1 := r1.below b2
              have r2 : Row1 m2 (.slice (some ⟨g2, 0, none⟩) 3 3) [.slice au nu cu, .slice am nm cm, .slice ad nd cd] := by rw [hm2, hg2]; exact Row1.made _ _ _ _ _ _ rfl rfl rfl (by unfold maxLen; omega)
              clear hm2 hg2
              have N2 : Ext w2 m2 := N1.trans b2
              refine hK.out _ _ N2 (fun hHeld => ?_)
              clear hK K
              try simp only [Act.put, List.getElem_toArray, List.getElem_cons_zero, List.getElem_cons_succ, List.setIfInBounds_toArray, List.set_cons_zero, List.set_cons_succ]
              refine wpAnyH_ready (rs := [3]) (by kernel_rfl) (by simp) (AllReadyH.cons rfl (fun K hK => ?_) AllReadyH.nil)
              go_simp
              refine (PSum_val (kb) (.slice (some ⟨g1, 0, none⟩) 1 1) _ (b) _ HKL.out (rowB1 r1 ((HR.out).below N2)) (by simp) (by have := HBL.out; omega)).mono ?_
              rintro e m3 ⟨rfl, b3⟩
              have r1 := r1.below b3
              have r2 := r2.below b3
              have N3 : Ext w2 m3 := N2.trans b3
              refine hK.out _ _ N3 (fun hHeld => ?_)
              clear hK K
              try simp only [Act.put, List.getElem_toArray, List.getElem_cons_zero, List.getElem_cons_succ, List.setIfInBounds_toArray, List.set_cons_zero, List.set_cons_succ]
              refine wpAnyH_ready (rs := [16]) (by kernel_rfl) (by simp) (AllReadyH.cons rfl (fun K hK => ?_) AllReadyH.nil)
              go_simp
              refine (PSum_val (kb) (.slice (some ⟨g2, 0, none⟩) 3 3) _ (b) _ HKL.out (rowB3 r2 ((HU.out).below N3) ((HM.out).below N3) ((HD.out).below N3)) (cut3 b p q HPQ.out) (by have := HBL.out; omega)).mono ?_
              rintro e m4 ⟨rfl, b4⟩
              have r1 := r1.below b4
              have r2 := r2.below b4
              have N4 : Ext w2 m4 := N3.trans b4
              refine hK.out _ _ N4 (fun hHeld => ?_)
              clear hK K
              try simp only [Act.put, List.getElem_toArray, List.getElem_cons_zero, List.getElem_cons_succ, List.setIfInBounds_toArray, List.set_cons_zero, List.set_cons_succ]
              refine wpAnyH_take (i := 17) (v := .bool true) rfl (by kernel_rfl) (by kernel_rfl) (by kernel_rfl) (fun _ _ _ h => h) (yi_eql _ _ _ _ _ 16 _ (polyTag (kb) (b)) (polyTag (kb) (b)) true (by rfl) rfl (decide_eq_true (rfl)) Try.underlying30 Try.underlying5 num_info num_cells tag_guard rfl rfl (polyTag_length _ _) (polyTag_length _ _)) hHeld ?_
              simp only [Act.put, List.getElem_toArray, List.getElem_cons_zero, List.getElem_cons_succ, List.setIfInBounds_toArray, List.set_cons_zero, List.set_cons_succ]
              refine wpAnyH_ready (rs := [18]) (by kernel_rfl) (by simp) (AllReadyH.cons rfl (fun K hK => ?_) AllReadyH.nil)
              go_simp
              refine hK.out _ _ N4 (fun hHeld => ?_)
              clear hK K
              try simp only [Act.put, List.getElem_toArray, List.getElem_cons_zero, List.getElem_cons_succ, List.setIfInBounds_toArray, List.set_cons_zero, List.set_cons_succ]
              refine wpAnyH_done (by kernel_rfl) ?_ _
              go_wp2_with fail
              go_ret
              exact ⟨rfl, HE.out.trans N4⟩
          · refine step_wp (by rfl) ?_
            refine wp_buildSlice_d (some 49) _ _ _ _ rfl rfl #[.slice au nu cu, .slice am nm cm, .slice ad nd cd] iq (.slice none 0 0) Try.underlying24 HQ0.out HQ1.out (by rw [HQ2.out]; decide) (by rw [HQ2.out]; decide) (by rw [HQ2.out]; kernel_rfl) ?_
            obtain ⟨m1, hm1⟩ : ∃ wNew, wNew = World.alloc w2.drew (.cells #[.slice au nu cu, .slice am nm cm, .slice ad nd cd] 27) := ⟨_, rfl⟩
            rw [← hm1]
            have b1 : Ext w2.drew m1 := by rw [hm1]; exact Ext.alloc _ _
            obtain ⟨g1, hg1⟩ : ∃ gNew, gNew = (w2.drew).heap.size := ⟨_, rfl⟩
            rw [← hg1]
            have r1 : Row1 m1 (.slice (some ⟨g1, 0, none⟩) 3 3) [.slice au nu cu, .slice am nm cm, .slice ad nd cd] := by rw [hm1, hg1]; exact Row1.made _ _ _ _ _ _ rfl rfl rfl (by unfold maxLen; omega)
            clear hm1 hg1
            have N1 : Ext w2 m1 := B0.trans b1
            refine hK.out _ _ N1 (fun hHeld => ?_)
            clear hK K
            try simp only [Act.put, List.getElem_toArray, List.getElem_cons_zero, List.getElem_cons_succ, List.setIfInBounds_toArray, List.set_cons_zero, List.set_cons_succ]
            refine wpAnyH_ready (rs := [2]) (by kernel_rfl) (by simp) (AllReadyH.cons rfl (fun K hK => ?_) AllReadyH.nil)
            refine step_wp (by rfl) ?_
            refine wp_buildSlice_d (some 36) _ _ _ _ rfl rfl #[.slice a b.length cap] iq (.slice none 0 0) Try.underlying24 HQ0.out HQ1.out (by rw [HQ2.out]; decide) (by rw [HQ2.out]; decide) (by rw [HQ2.out]; kernel_rfl) ?_
            obtain ⟨m2, hm2⟩ : ∃ wNew, wNew = World.alloc m1 (.cells #[.slice a b.length cap] 27) := ⟨_, rfl⟩
            rw [← hm2]
            have b2 : Ext m1 m2 := by rw [hm2]; exact Ext.alloc _ _
            obtain ⟨g2, hg2⟩ : ∃ gNew, gNew = (m1).heap.size := ⟨_, rfl⟩
            rw [← hg2]
            have r1 := r1.below b2
            have r2 : Row1 m2 (.slice (some ⟨g2, 0, none⟩) 1 1) [.slice a b.length cap] := by rw [hm2, hg2]; exact Row1.made _ _ _ _ _ _ rfl rfl rfl (by unfold maxLen; omega)
            clear hm2 hg2
            have N2 : Ext w2 m2 := N1.trans b2
            refine hK.out _ _ N2 (fun hHeld => ?_)
            clear hK K
            try simp only [Act.put, List.getElem_toArray, List.getElem_cons_zero, List.getElem_cons_succ, List.setIfInBounds_toArray, List.set_cons_zero, List.set_cons_succ]
            refine wpAnyH_ready (rs := [3]) (by kernel_rfl) (by simp) (AllReadyH.cons rfl (fun K hK => ?_) AllReadyH.nil)
            go_simp
            refine (PSum_val (kb) (.slice (some ⟨g2, 0, none⟩) 1 1) _ (b) _ HKL.out (rowB1 r2 ((HR.out).below N2)) (by simp) (by have := HBL.out; omega)).mono ?_
            rintro e m3 ⟨rfl, b3⟩
            have r1 := r1.below b3
            have r2 := r2.below b3
            have N3 : Ext w2 m3 := N2.trans b3
            refine hK.out _ _ N3 (fun hHeld => ?_)
            clear hK K
            try simp only [Act.put, List.getElem_toArray, List.getElem_cons_zero, List.getElem_cons_succ, List.setIfInBounds_toArray, List.set_cons_zero, List.set_cons_succ]
            refine wpAnyH_ready (rs := [16]) (by kernel_rfl) (by simp) (AllReadyH.cons rfl (fun K hK => ?_) AllReadyH.nil)
            go_simp
            refine (PSum_val (kb) (.slice (some ⟨g1, 0, none⟩) 3 3) _ (b) _ HKL.out (rowB3 r1 ((HU.out).below N3) ((HM.out).below N3) ((HD.out).below N3)) (cut3 b p q HPQ.out) (by have := HBL.out; omega)).mono ?_
            rintro e m4 ⟨rfl, b4⟩
            have r1 := r1.below b4
            have r2 := r2.below b4
            have N4 : Ext w2 m4 := N3.trans b4
            refine hK.out _ _ N4 (fun hHeld => ?_)
            clear hK K
            try simp only [Act.put, List.getElem_toArray, List.getElem_cons_zero, List.getElem_cons_succ, List.setIfInBounds_toArray, List.set_cons_zero, List.set_cons_succ]
            refine wpAnyH_take (i := 17) (v := .bool true) rfl (by kernel_rfl) (by kernel_rfl) (by kernel_rfl) (fun _ _ _ h => h) (yi_eql _ _ _ _ _ 16 _ (polyTag (kb) (b)) (polyTag (kb) (b)) true (by rfl) rfl (decide_eq_true (rfl)) Try.underlying30 Try.underlying5 num_info num_cells tag_guard rfl rfl (polyTag_length _ _) (polyTag_length _ _)) hHeld ?_
            simp only [Act.put, List.getElem_toArray, List.getElem_cons_zero, List.getElem_cons_succ, List.setIfInBounds_toArray, List.set_cons_zero, List.set_cons_succ]
            refine wpAnyH_ready (rs := [18]) (by kernel_rfl) (by simp) (AllReadyH.cons rfl (fun K hK => ?_) AllReadyH.nil)
            go_simp
            refine hK.out _ _ N4 (fun hHeld => ?_)
            clear hK K
            try simp only [Act.put, List.getElem_toArray, List.getElem_cons_zero, List.getElem_cons_succ, List.setIfInBounds_toArray, List.set_cons_zero, List.set_cons_succ]
            refine wpAnyH_done (by kernel_rfl) ?_ _
            go_wp2_with fail
            go_ret
            exact ⟨rfl, HE.out.trans N4⟩

end Go.Proofs.Ytelenldabjmjbaa
