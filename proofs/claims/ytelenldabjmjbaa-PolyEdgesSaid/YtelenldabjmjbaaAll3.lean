/- Texts that belong together, one behind the other; each says in its own first remark what it shows. -/
import Derived.Test.YtelenldabjmjbaaAll2

/- The walk of PolySums. Laid by wip/gen/gply1.py. Each theorem names its own conditions. -/
namespace Go.Proofs.Ytelenldabjmjbaa
open Go.RowKit
set_option linter.unusedVariables false
set_option linter.unusedSimpArgs false

theorem PSum_val (kb : List UInt8) (v : Value) (ls : List (List UInt8)) (m : List UInt8) (w : World) (hk : kb.length = 32) (hv : RowB w v ls) (hf : ls.flatten = m) (hm : m.length ≤ 1099511627776) :
    Calls Try.prog 12 #[.agg (kb.map bval).toArray, v] w fun e w' => e = .returned (.agg ((polyTag kb m).map bval).toArray) ∧ Below w.heap.size w w' := by
  subst hf
  exact PSum_num kb v ls w hk hv hm
theorem PSum_one (kb : List UInt8) (x : Value) (l : List UInt8) (w : World) (hk : kb.length = 32) (hx : Row1 w x (l.map bval)) (hl : l.length ≤ 1099511627776) :
    Calls Try.prog 12 #[.agg (kb.map bval).toArray, .slice (some ⟨w.heap.size, 0, none⟩) 1 1] (w.alloc (.cells #[x] 27)) fun e w' => e = .returned (.agg ((polyTag kb l).map bval).toArray) ∧ Ext w w' := by
  have he := Ext.alloc w (.cells #[x] 27)
  have h := PSum_val kb _ [l] l _ hk (rowB1 (Row1.made w #[x] 27 _ 1 [x] rfl rfl rfl (by unfold maxLen; omega)) (hx.below he)) (by simp) hl
  exact h.mono fun e w' hh => ⟨hh.1, he.trans hh.2⟩

set_option maxRecDepth 100000 in
set_option maxHeartbeats 8000000 in
theorem polySums_any (kb : List UInt8) (v : Value) (ls : List (List UInt8)) (w : World) (hk : kb.length = 32) (hv : RowB w v ls) :
    Calls Try.prog 3 #[.agg (kb.map bval).toArray, v] w fun e w' => e = .returned (.bool true) ∧ Below w.heap.size w w' := by
  obtain ⟨iq, hq0, hq1, hq2⟩ := info_two (P := Try.prog) (t := 27) (z := .slice none 0 0) (n := 1) (by kernel_rfl)
  have HQ0 := Lib.hid hq0
  have HQ1 := Lib.hid hq1
  have HQ2 := Lib.hid hq2
  obtain ⟨i0, hi, hz0, hz1, hz2⟩ := info_parts Try.info5
  have HI0 := Lib.hid hi
  have HZ0 := Lib.hid hz0
  have HZ1 := Lib.hid hz1
  have HZ2 := Lib.hid hz2
  clear hi hz0 hz1 hz2 hq0 hq1 hq2
  obtain ⟨a, cap, rfl⟩ := rowB_any hv
  have HKL := Lib.hid hk
  have HRB := Lib.hid hv
  have HB1 := Lib.hid (Blk.made w (kb.map bval) 23)
  have HE := Lib.hid (Ext.alloc w (.cells (kb.map bval).toArray 23))
  have HI1 : Hid ((Try.prog.info? 23).map (·.size) = some (kb.map bval).length) := Lib.hid (num_size hk)
  clear hk hv
  go_enter Try.func3, Try.ntmps3
  go_upto_region 1 with (fail)
  change Code.wp _ _ _ _ (w.alloc (.cells (kb.map bval).toArray 23))
  have HRB := Lib.hid (HRB.out.below HE.out)
  generalize w.alloc (.cells (kb.map bval).toArray 23) = w1 at *
  obtain ⟨B, hB⟩ : ∃ B, B = w.heap.size := ⟨_, rfl⟩
  have HB1 := HB1.out
  rw [← hB] at HB1 ⊢
  have HB1 := Lib.hid HB1
  clear hB
  go_wp2_with fail
  refine (alive_any10 w1).mono ?_
  rintro e w2 ⟨rfl, hb⟩
  have HE := Lib.hid (HE.out.trans hb)
  have HB1 := Lib.hid (ext_blk HB1.out hb)
  have HRB := Lib.hid (HRB.out.below hb)
  clear hb
  go_wp2_with fail
  refine (big_any (.slice a ls.length cap) ls w2 HRB.out).mono ?_
  rintro e w3 ⟨rfl, rfl⟩
  cases hbig : bigB ls with
  | true =>
    clear hbig
    go_wp2_with fail
    go_ret
    exact ⟨rfl, HE.out⟩
  | false =>
    have hll := small_flat hbig
    clear hbig
    obtain ⟨m, hm⟩ : ∃ m, m = ls.flatten := ⟨_, rfl⟩
    rw [← hm] at hll
    have HMM := Lib.hid hm
    have HML : Hid (m.length ≤ 1099511627776) := Lib.hid (by omega)
    clear hll hm
    go_wp2_with fail
    refine (join_any (.slice a ls.length cap) ls w2 HRB.out (by rw [← HMM.out]; exact HML.out)).mono ?_
    rintro e w4 ⟨x, rfl, hx, hb⟩
    rw [← HMM.out] at hx
    have HX := Lib.hid hx
    obtain ⟨ax, cx, hxv, _⟩ := id hx
    rw [List.length_map] at hxv
    subst hxv
    have HE := Lib.hid (HE.out.trans hb)
    have HB1 := Lib.hid (ext_blk HB1.out hb)
    have HRB := Lib.hid (HRB.out.below hb)
    clear hb hx
    go_wp2_with (refine wpList_load_blk rfl _ _ rfl B rfl _ _ _ _ HB1.out Try.underlying23 HI1.out ?_)
    refine (rPoly_any kb m _ w4 HKL.out HX.out HML.out).mono ?_
    rintro e w5 ⟨rfl, hb⟩
    have HE := Lib.hid (HE.out.trans hb)
    have HB1 := Lib.hid (ext_blk HB1.out hb)
    have HRB := Lib.hid (HRB.out.below hb)
    have HX := Lib.hid (HX.out.below hb)
    clear hb
    have HZT := Lib.hid (Blk.made w5 (ints .u8 (List.replicate 16 0)) 30)
    have HEA := Lib.hid (Ext.alloc w5 (.cells (ints .u8 (List.replicate 16 0)).toArray 30))
    have HI3 : Hid ((Try.prog.info? 30).map (·.size) = some ((polyTag kb m).map bval).length) := Lib.hid (ptag_size (polyTag_length _ _))
    have HLo : Hid (((polyTag kb m).map bval).length = (ints .u8 (List.replicate 16 0)).length) := Lib.hid (by rw [List.length_map, polyTag_length, ints_length, List.length_replicate])
    go_upto_region 7 with (refine wpList_store_blk rfl _ _ _ rfl w5.heap.size ((polyTag kb m).map bval) rfl rfl _ _ HZT.out HLo.out HI3.out (bval_one _) ?_; intro w6 hb6 hg6)
    have HE4 := Lib.hid (ext_grown HEA.out hg6 (Nat.le_refl _))
    have HE := Lib.hid (HE.out.trans HE4.out)
    have HB1 := Lib.hid (ext_blk HB1.out HE4.out)
    have HRB := Lib.hid (HRB.out.below HE4.out)
    have HX := Lib.hid (HX.out.below HE4.out)
    have HB3 := Lib.hid hb6
    obtain ⟨T, hT⟩ : ∃ T, T = w5.heap.size := ⟨_, rfl⟩
    rw [← hT] at HB3 ⊢
    clear hb6 hg6 HZT HEA HLo HE4 hT
    have B0 : Ext w6 w6.drew := Ext.drew _
    refine wp_region_held_drew (S := fun w' => Ext w6 w') (by kernel_rfl) B0 (fun hHeld => ?_)
    refine wpAnyH_take (i := 0) (v := .agg ((kb).map bval).toArray) rfl (by kernel_rfl) (by kernel_rfl) (by kernel_rfl) (fun _ _ _ h => h) (yieldsIf_load_mid (by rfl) _ _ rfl B 0 rfl _ _ (fun w h => bl_range HB1.out h) Try.underlying23 rfl HI1.out) hHeld ?_
    simp only [Act.put, List.getElem_toArray, List.getElem_cons_zero, List.getElem_cons_succ, List.setIfInBounds_toArray, List.set_cons_zero, List.set_cons_succ]
    refine wpAnyH_take (i := 1) (v := .slice a ls.length cap) rfl (by kernel_rfl) (by kernel_rfl) (by kernel_rfl) (fun _ _ _ h => h) (yi_move _ (.slice a ls.length cap) (by rfl) rfl rfl) hHeld ?_
    simp only [Act.put, List.getElem_toArray, List.getElem_cons_zero, List.getElem_cons_succ, List.setIfInBounds_toArray, List.set_cons_zero, List.set_cons_succ]
    refine wpAnyH_take (i := 3) (v := .agg ((polyTag kb m).map bval).toArray) rfl (by kernel_rfl) (by kernel_rfl) (by kernel_rfl) (fun _ _ _ h => h) (yieldsIf_load_mid (by rfl) _ _ rfl T 0 rfl _ _ (fun w h => bl_range HB3.out h) Try.underlying30 rfl HI3.out) hHeld ?_
    simp only [Act.put, List.getElem_toArray, List.getElem_cons_zero, List.getElem_cons_succ, List.setIfInBounds_toArray, List.set_cons_zero, List.set_cons_succ]
    refine wpAnyH_ready (rs := [2]) (by kernel_rfl) (by simp) (AllReadyH.cons rfl (fun K hK => ?_) AllReadyH.nil)
    go_simp
    refine (PSum_val kb (.slice a ls.length cap) _ m _ HKL.out (HRB.out.below B0) HMM.out.symm HML.out).mono ?_
    rintro e m1 ⟨rfl, b1⟩
    have N1 : Ext w6 m1 := B0.trans b1
    refine hK.out _ _ N1 (fun hHeld => ?_)
    clear hK K
    try simp only [Act.put, List.getElem_toArray, List.getElem_cons_zero, List.getElem_cons_succ, List.setIfInBounds_toArray, List.set_cons_zero, List.set_cons_succ]
    refine wpAnyH_take (i := 4) (v := .bool true) rfl (by kernel_rfl) (by kernel_rfl) (by kernel_rfl) (fun _ _ _ h => h) (yi_eql _ _ _ _ _ 16 _ (polyTag kb m) (polyTag kb m) true (by rfl) rfl (decide_eq_true (rfl)) Try.underlying30 Try.underlying5 num_info num_cells tag_guard rfl rfl (polyTag_length _ _) (polyTag_length _ _)) hHeld ?_
    simp only [Act.put, List.getElem_toArray, List.getElem_cons_zero, List.getElem_cons_succ, List.setIfInBounds_toArray, List.set_cons_zero, List.set_cons_succ]
    refine wpAnyH_take (i := 5) (v := .bool true) rfl (by kernel_rfl) (by kernel_rfl) (by kernel_rfl) (fun _ _ _ h => h) (yi_move _ (.bool true) (by rfl) rfl rfl) hHeld ?_
    simp only [Act.put, List.getElem_toArray, List.getElem_cons_zero, List.getElem_cons_succ, List.setIfInBounds_toArray, List.set_cons_zero, List.set_cons_succ]
    refine wpAnyH_take (i := 6) (v := .agg ((kb).map bval).toArray) rfl (by kernel_rfl) (by kernel_rfl) (by kernel_rfl) (fun _ _ _ h => h) (yieldsIf_load_mid (by rfl) _ _ rfl B 0 rfl _ _ (fun w h => bl_range HB1.out h) Try.underlying23 rfl HI1.out) hHeld ?_
    simp only [Act.put, List.getElem_toArray, List.getElem_cons_zero, List.getElem_cons_succ, List.setIfInBounds_toArray, List.set_cons_zero, List.set_cons_succ]
    refine wpAnyH_take (i := 7) (v := .slice ax m.length cx) rfl (by kernel_rfl) (by kernel_rfl) (by kernel_rfl) (fun _ _ _ h => h) (yi_move _ (.slice ax m.length cx) (by rfl) rfl rfl) hHeld ?_
    simp only [Act.put, List.getElem_toArray, List.getElem_cons_zero, List.getElem_cons_succ, List.setIfInBounds_toArray, List.set_cons_zero, List.set_cons_succ]
    refine wpAnyH_take (i := 10) (v := .agg ((polyTag kb m).map bval).toArray) rfl (by kernel_rfl) (by kernel_rfl) (by kernel_rfl) (fun _ _ _ h => h) (yieldsIf_load_mid (by rfl) _ _ rfl T 0 rfl _ _ (fun w h => bl_range HB3.out h) Try.underlying30 rfl HI3.out) hHeld ?_
    simp only [Act.put, List.getElem_toArray, List.getElem_cons_zero, List.getElem_cons_succ, List.setIfInBounds_toArray, List.set_cons_zero, List.set_cons_succ]
    refine wpAnyH_ready (rs := [8]) (by kernel_rfl) (by simp) (AllReadyH.cons rfl (fun K hK => ?_) AllReadyH.nil)
    refine step_wp (by rfl) ?_
    refine wp_buildSlice_d (some 31) _ _ _ _ rfl rfl #[.slice ax m.length cx] iq (.slice none 0 0) Try.underlying24 HQ0.out HQ1.out (by rw [HQ2.out]; decide) (by rw [HQ2.out]; decide) (by rw [HQ2.out]; kernel_rfl) ?_
    obtain ⟨m2, hm2⟩ : ∃ wNew, wNew = World.alloc m1 (.cells #[.slice ax m.length cx] 27) := ⟨_, rfl⟩
    rw [← hm2]
    have b2 : Ext m1 m2 := by rw [hm2]; exact Ext.alloc _ _
    obtain ⟨g2, hg2⟩ : ∃ gNew, gNew = (m1).heap.size := ⟨_, rfl⟩
    rw [← hg2]
    have r2 : Row1 m2 (.slice (some ⟨g2, 0, none⟩) 1 1) [.slice ax m.length cx] := by rw [hm2, hg2]; exact Row1.made _ _ _ _ _ _ rfl rfl rfl (by unfold maxLen; omega)
    clear hm2 hg2
    have N2 : Ext w6 m2 := N1.trans b2
    refine hK.out _ _ N2 (fun hHeld => ?_)
    clear hK K
    try simp only [Act.put, List.getElem_toArray, List.getElem_cons_zero, List.getElem_cons_succ, List.setIfInBounds_toArray, List.set_cons_zero, List.set_cons_succ]
    refine wpAnyH_ready (rs := [9]) (by kernel_rfl) (by simp) (AllReadyH.cons rfl (fun K hK => ?_) AllReadyH.nil)
    go_simp
    refine (PSum_val (kb) (.slice (some ⟨g2, 0, none⟩) 1 1) _ (m) _ HKL.out (rowB1 r2 ((HX.out).below N2)) (by simp) (HML.out)).mono ?_
    rintro e m3 ⟨rfl, b3⟩
    have r2 := r2.below b3
    have N3 : Ext w6 m3 := N2.trans b3
    refine hK.out _ _ N3 (fun hHeld => ?_)
    clear hK K
    try simp only [Act.put, List.getElem_toArray, List.getElem_cons_zero, List.getElem_cons_succ, List.setIfInBounds_toArray, List.set_cons_zero, List.set_cons_succ]
    refine wpAnyH_take (i := 11) (v := .bool true) rfl (by kernel_rfl) (by kernel_rfl) (by kernel_rfl) (fun _ _ _ h => h) (yi_eql _ _ _ _ _ 16 _ (polyTag (kb) (m)) (polyTag kb m) true (by rfl) rfl (decide_eq_true (rfl)) Try.underlying30 Try.underlying5 num_info num_cells tag_guard rfl rfl (polyTag_length _ _) (polyTag_length _ _)) hHeld ?_
    simp only [Act.put, List.getElem_toArray, List.getElem_cons_zero, List.getElem_cons_succ, List.setIfInBounds_toArray, List.set_cons_zero, List.set_cons_succ]
    refine wpAnyH_take (i := 12) (v := .bool true) rfl (by kernel_rfl) (by kernel_rfl) (by kernel_rfl) (fun _ _ _ h => h) (yi_pick _ _ _ true _ (by rfl) rfl rfl rfl) hHeld ?_
    simp only [Act.put, List.getElem_toArray, List.getElem_cons_zero, List.getElem_cons_succ, List.setIfInBounds_toArray, List.set_cons_zero, List.set_cons_succ]
    refine wpAnyH_ready (rs := [13]) (by kernel_rfl) (by simp) (AllReadyH.cons rfl (fun K hK => ?_) AllReadyH.nil)
    go_simp
    refine hK.out _ _ N3 (fun hHeld => ?_)
    clear hK K
    try simp only [Act.put, List.getElem_toArray, List.getElem_cons_zero, List.getElem_cons_succ, List.setIfInBounds_toArray, List.set_cons_zero, List.set_cons_succ]
    refine wpAnyH_done (by kernel_rfl) ?_ _
    go_wp2_with fail
    go_ret
    exact ⟨rfl, HE.out.trans N3⟩

end Go.Proofs.Ytelenldabjmjbaa

/- The walk of PolyEdges. Laid by wip/gen/gply1.py. Each theorem names its own conditions. -/
namespace Go.Proofs.Ytelenldabjmjbaa
open Go.RowKit
set_option linter.unusedVariables false
set_option linter.unusedSimpArgs false

theorem rep_get (n : Nat) (v : UInt8) (k : Nat) (h : k < n) : ((v.toNat : Nat) : Int) = (((List.replicate n v).getD k 0).toNat : Int) := by
  simp [List.getD, h]

set_option maxRecDepth 100000 in
set_option maxHeartbeats 8000000 in
theorem polyEdges_any (k v : UInt8) (n : Int) (w : World) (hn1 : -9223372036854775808 ≤ n) (hn2 : n ≤ 9223372036854775807) :
    Calls Try.prog 4 #[.int .u8 (k.toNat : Int), .int .u8 (v.toNat : Int), .int .i64 n] w fun e w' => e = .returned (.bool true) ∧ Below w.heap.size w w' := by
  obtain ⟨iq, hq0, hq1, hq2⟩ := info_two (P := Try.prog) (t := 27) (z := .slice none 0 0) (n := 1) (by kernel_rfl)
  have HQ0 := Lib.hid hq0
  have HQ1 := Lib.hid hq1
  have HQ2 := Lib.hid hq2
  obtain ⟨i0, hi, hz0, hz1, hz2⟩ := info_parts Try.info5
  have HI0 := Lib.hid hi
  have HZ0 := Lib.hid hz0
  have HZ1 := Lib.hid hz1
  have HZ2 := Lib.hid hz2
  clear hi hz0 hz1 hz2 hq0 hq1 hq2
  obtain ⟨yk, hyk⟩ : ∃ y, y = ((k.toNat : Nat) : Int) := ⟨_, rfl⟩
  obtain ⟨yv, hyv⟩ : ∃ y, y = ((v.toNat : Nat) : Int) := ⟨_, rfl⟩
  rw [← hyk, ← hyv]
  have HYK := Lib.hid hyk
  have HYV := Lib.hid hyv
  clear hyk hyv
  go_enter Try.func4, Try.ntmps4
  go_wp2_with fail
  refine (alive_any10 w).mono ?_
  rintro e w1 ⟨rfl, hb⟩
  have HE : Hid (Ext w w1) := Lib.hid hb
  clear hb
  by_cases h0 : n < 0
  · go_wp2_with fail
    go_ret
    exact ⟨rfl, HE.out⟩
  · by_cases h1 : 300 < n
    · have hd : decide (n < 0) = false := decide_eq_false h0
      go_wp2_with fail
      go_ret
      exact ⟨rfl, HE.out⟩
    · obtain ⟨m, rfl⟩ : ∃ m : Nat, n = (m : Int) := ⟨n.toNat, by omega⟩
      have m0 : (0 : Int) ≤ (m : Int) := Int.natCast_nonneg _
      have hm1 : (m : Int) ≤ 300 := by omega
      have hd : decide ((m : Int) < 0) = false := decide_eq_false h0
      have hd2 : decide (300 < (m : Int)) = false := decide_eq_false h1
      have HMB : Hid (m ≤ 300) := Lib.hid (by omega)
      clear h0 h1 hn1 hn2
      have HB1 := Lib.hid (Blk.made w1 (ints .u8 (List.replicate 32 0)) 23)
      have HEA := Lib.hid (Ext.alloc w1 (.cells (ints .u8 (List.replicate 32 0)).toArray 23))
      have HKL : Hid ((List.replicate 32 k).length = 32) := Lib.hid (by simp)
      go_upto_region 5 with (fail)
      change Code.wp _ _ _ _ (w1.alloc (.cells (ints .u8 (List.replicate 32 0)).toArray 23))
      obtain ⟨B, hB⟩ : ∃ B, B = w1.heap.size := ⟨_, rfl⟩
      have HBW : Hid (w.heap.size ≤ B) := Lib.hid (by rw [hB]; exact HE.out.size)
      have HE := Lib.hid (HE.out.trans HEA.out)
      generalize w1.alloc (.cells (ints .u8 (List.replicate 32 0)).toArray 23) = w2 at *
      have HB1 := HB1.out
      rw [← hB] at HB1 ⊢
      rw [← fill_start 32 (List.replicate 32 k)] at HB1
      have HB1 := Lib.hid HB1
      clear hB HEA
      go_wp2_with fail
      go_loopw [9] (fun iv wr => ∃ (i : Nat), i ≤ 32 ∧ iv = .int .i64 (i : Int) ∧ Blk wr B ((fill 32 (List.replicate 32 k) i).map bval) 23 ∧ Ext w wr) (fun iv _ => 32 - (intOf iv).toNat)
      case atStart => exact ⟨0, by omega, rfl, HB1.out, HE.out⟩
      case round =>
        clear HB1 HE
        obtain ⟨i, hi, rfl, hb1, hbel⟩ := hrel
        have i0' : (0 : Int) ≤ (i : Int) := Int.natCast_nonneg _
        have HB1 := Lib.hid hb1
        have HE := Lib.hid hbel
        by_cases hli : i < 32
        · have i1 : (i : Int) < 32 := by omega
          obtain ⟨u6, c6⟩ : ∃ u, wr.cell? ⟨B, i, none⟩ = some u := ⟨_, by rw [hb1.cell, bval_get (by rw [fill_length HKL.out (by omega)]; exact hli)]⟩
          have f6 := hb1.free i
          clear hb1 hbel
          go_wp2_with fail
          go_roundw
          case rel =>
            refine ⟨i + 1, by omega, by go_num, ?_, Below.setCell HE.out (by have := HBW.out; simp; omega) _⟩
            rw [← fill_set_val HKL.out hli (HYK.out.trans (rep_get 32 k i hli))]
            exact HB1.out.set i _
          case measure => simp [intOf]; omega
        · have hi32 : i = 32 := by omega
          subst hi32
          rw [fill_full HKL.out] at hb1
          have HB1 := Lib.hid hb1
          have HI1 : Hid ((Try.prog.info? 23).map (·.size) = some ((List.replicate 32 k).map bval).length) := Lib.hid (num_size HKL.out)
          have HBL := Lib.hid hb1.lt
          clear hb1 hbel hi hli
          have hmk := run_make_zeros wr 27 5 Try.underlying27 i0 HI0.out HZ0.out HZ1.out HZ2.out m (by have := HMB.out; omega)
          have HMA : Hid (Blk (wr.alloc (.cells ((zB m).map bval).toArray 5)) wr.heap.size ((fill m (List.replicate m v) 0).map bval) 5) := Lib.hid (by rw [fill_zero]; exact Blk.made wr ((zB m).map bval) 5)
          have HEM := Ext.alloc wr (.cells ((zB m).map bval).toArray 5)
          have HML : Hid ((List.replicate m v).length = m) := Lib.hid (by simp)
          have HB1 := Lib.hid (ext_blk HB1.out HEM)
          obtain ⟨M, hM⟩ : ∃ M, M = wr.heap.size := ⟨_, rfl⟩
          have HMW : Hid (w.heap.size ≤ M) := Lib.hid (by rw [hM]; exact HE.out.size)
          have HBM : Hid (B < M) := Lib.hid (by rw [hM]; exact HBL.out)
          have HE := Lib.hid (HE.out.trans HEM)
          go_upto_region 10 with (fail)
          change Code.wp _ _ _ _ (wr.alloc (.cells ((zB m).map bval).toArray 5))
          have HMA := HMA.out
          rw [← hM] at HMA ⊢
          have HMA := Lib.hid HMA
          generalize wr.alloc (.cells ((zB m).map bval).toArray 5) = w3 at *
          clear hmk hM HEM
          go_wp2_with fail
          go_loopw [11] (fun iv wr => ∃ (i : Nat), i ≤ m ∧ iv = .int .i64 (i : Int) ∧ Blk wr M ((fill m (List.replicate m v) i).map bval) 5 ∧ Blk wr B ((List.replicate 32 k).map bval) 23 ∧ Ext w wr) (fun iv _ => m - (intOf iv).toNat)
          case atStart => exact ⟨0, by omega, rfl, HMA.out, HB1.out, HE.out⟩
          case round =>
            clear HMA HB1 HE
            obtain ⟨i, hi, rfl, hb2, hb1, hbel⟩ := hrel
            have i0' : (0 : Int) ≤ (i : Int) := Int.natCast_nonneg _
            have HB1 := Lib.hid hb1
            have HMA := Lib.hid hb2
            have HE := Lib.hid hbel
            by_cases hli : i < m
            · have i1 : (i : Int) < (m : Int) := by omega
              obtain ⟨u6, c6⟩ : ∃ u, wr.cell? ⟨M, i, none⟩ = some u := ⟨_, by rw [hb2.cell, bval_get (by rw [fill_length HML.out (by omega)]; exact hli)]⟩
              have f6 := hb2.free i
              clear hb1 hb2 hbel
              go_wp2_with fail
              go_roundw
              case rel =>
                refine ⟨i + 1, by omega, by go_num, ?_, HB1.out.far (by have := HBM.out; simp; omega) _, Below.setCell HE.out (by have := HMW.out; simp; omega) _⟩
                rw [← fill_set_val HML.out hli (HYV.out.trans (rep_get m v i hli))]
                exact HMA.out.set i _
              case measure => simp [intOf]; omega
            · have him : m = i := by omega
              subst him
              rw [fill_full HML.out] at hb2
              have HMR : Hid (Row1 wr (.slice (some ⟨M, 0, none⟩) m m) ((List.replicate m v).map bval)) := Lib.hid (blk_row hb2 (by rw [List.length_map, HML.out]) (by have := HMB.out; unfold maxLen; omega))
              obtain ⟨w9, hw9⟩ : ∃ w9, w9 = wr := ⟨_, rfl⟩
              rw [← hw9] at HMR HB1 HE ⊢
              clear hb1 hb2 hbel hi hli hw9 HMA
              go_upto_region 14 with (fail)
              have B0 : Ext w9 w9.drew := Ext.drew _
              refine wp_region_held_drew (S := fun w' => Ext w9 w') (by kernel_rfl) B0 (fun hHeld => ?_)
              refine wpAnyH_take (i := 0) (v := .agg ((List.replicate 32 k).map bval).toArray) rfl (by kernel_rfl) (by kernel_rfl) (by kernel_rfl) (fun _ _ _ h => h) (yieldsIf_load_mid (by rfl) _ _ rfl B 0 rfl _ _ (fun w h => bl_range HB1.out h) Try.underlying23 rfl HI1.out) hHeld ?_
              simp only [Act.put, List.getElem_toArray, List.getElem_cons_zero, List.getElem_cons_succ, List.setIfInBounds_toArray, List.set_cons_zero, List.set_cons_succ]
              refine wpAnyH_take (i := 1) (v := .slice (some ⟨M, 0, none⟩) m m) rfl (by kernel_rfl) (by kernel_rfl) (by kernel_rfl) (fun _ _ _ h => h) (yi_move _ (.slice (some ⟨M, 0, none⟩) m m) (by rfl) rfl rfl) hHeld ?_
              simp only [Act.put, List.getElem_toArray, List.getElem_cons_zero, List.getElem_cons_succ, List.setIfInBounds_toArray, List.set_cons_zero, List.set_cons_succ]
              refine wpAnyH_take (i := 4) (v := .agg ((List.replicate 32 k).map bval).toArray) rfl (by kernel_rfl) (by kernel_rfl) (by kernel_rfl) (fun _ _ _ h => h) (yieldsIf_load_mid (by rfl) _ _ rfl B 0 rfl _ _ (fun w h => bl_range HB1.out h) Try.underlying23 rfl HI1.out) hHeld ?_
              simp only [Act.put, List.getElem_toArray, List.getElem_cons_zero, List.getElem_cons_succ, List.setIfInBounds_toArray, List.set_cons_zero, List.set_cons_succ]
              refine wpAnyH_take (i := 5) (v := .slice (some ⟨M, 0, none⟩) m m) rfl (by kernel_rfl) (by kernel_rfl) (by kernel_rfl) (fun _ _ _ h => h) (yi_move _ (.slice (some ⟨M, 0, none⟩) m m) (by rfl) rfl rfl) hHeld ?_
              simp only [Act.put, List.getElem_toArray, List.getElem_cons_zero, List.getElem_cons_succ, List.setIfInBounds_toArray, List.set_cons_zero, List.set_cons_succ]
              refine wpAnyH_ready (rs := [2]) (by kernel_rfl) (by simp) (AllReadyH.cons rfl (fun K hK => ?_) AllReadyH.nil)
              refine step_wp (by rfl) ?_
              refine wp_buildSlice_d (some 44) _ _ _ _ rfl rfl #[.slice (some ⟨M, 0, none⟩) m m] iq (.slice none 0 0) Try.underlying24 HQ0.out HQ1.out (by rw [HQ2.out]; decide) (by rw [HQ2.out]; decide) (by rw [HQ2.out]; kernel_rfl) ?_
              obtain ⟨m1, hm1⟩ : ∃ wNew, wNew = World.alloc w9.drew (.cells #[.slice (some ⟨M, 0, none⟩) m m] 27) := ⟨_, rfl⟩
              rw [← hm1]
              have b1 : Ext w9.drew m1 := by rw [hm1]; exact Ext.alloc _ _
              obtain ⟨g1, hg1⟩ : ∃ gNew, gNew = (w9.drew).heap.size := ⟨_, rfl⟩
              rw [← hg1]
              have r1 : Row1 m1 (.slice (some ⟨g1, 0, none⟩) 1 1) [.slice (some ⟨M, 0, none⟩) m m] := by rw [hm1, hg1]; exact Row1.made _ _ _ _ _ _ rfl rfl rfl (by unfold maxLen; omega)
              clear hm1 hg1
              have N1 : Ext w9 m1 := B0.trans b1
              refine hK.out _ _ N1 (fun hHeld => ?_)
              clear hK K
              try simp only [Act.put, List.getElem_toArray, List.getElem_cons_zero, List.getElem_cons_succ, List.setIfInBounds_toArray, List.set_cons_zero, List.set_cons_succ]
              refine wpAnyH_ready (rs := [3]) (by kernel_rfl) (by simp) (AllReadyH.cons rfl (fun K hK => ?_) AllReadyH.nil)
              go_simp
              refine (PSum_val (List.replicate 32 k) (.slice (some ⟨g1, 0, none⟩) 1 1) _ (List.replicate m v) _ HKL.out (rowB1 r1 ((HMR.out).below N1)) (by simp) (by have := HMB.out; rw [List.length_replicate]; omega)).mono ?_
              rintro e m2 ⟨rfl, b2⟩
              have r1 := r1.below b2
              have N2 : Ext w9 m2 := N1.trans b2
              refine hK.out _ _ N2 (fun hHeld => ?_)
              clear hK K
              try simp only [Act.put, List.getElem_toArray, List.getElem_cons_zero, List.getElem_cons_succ, List.setIfInBounds_toArray, List.set_cons_zero, List.set_cons_succ]
              refine wpAnyH_ready (rs := [6]) (by kernel_rfl) (by simp) (AllReadyH.cons rfl (fun K hK => ?_) AllReadyH.nil)
              go_simp
              refine (rPoly_any (List.replicate 32 k) (List.replicate m v) _ _ HKL.out ((HMR.out).below N2) (by have := HMB.out; rw [List.length_replicate]; omega)).mono ?_
              rintro e m3 ⟨rfl, b3⟩
              have r1 := r1.below b3
              have N3 : Ext w9 m3 := N2.trans b3
              refine hK.out _ _ N3 (fun hHeld => ?_)
              clear hK K
              try simp only [Act.put, List.getElem_toArray, List.getElem_cons_zero, List.getElem_cons_succ, List.setIfInBounds_toArray, List.set_cons_zero, List.set_cons_succ]
              refine wpAnyH_take (i := 7) (v := .bool true) rfl (by kernel_rfl) (by kernel_rfl) (by kernel_rfl) (fun _ _ _ h => h) (yi_eql _ _ _ _ _ 16 _ (polyTag (List.replicate 32 k) (List.replicate m v)) (polyTag (List.replicate 32 k) (List.replicate m v)) true (by rfl) rfl (decide_eq_true (rfl)) Try.underlying30 Try.underlying5 num_info num_cells tag_guard rfl rfl (polyTag_length _ _) (polyTag_length _ _)) hHeld ?_
              simp only [Act.put, List.getElem_toArray, List.getElem_cons_zero, List.getElem_cons_succ, List.setIfInBounds_toArray, List.set_cons_zero, List.set_cons_succ]
              refine wpAnyH_ready (rs := [8]) (by kernel_rfl) (by simp) (AllReadyH.cons rfl (fun K hK => ?_) AllReadyH.nil)
              go_simp
              refine hK.out _ _ N3 (fun hHeld => ?_)
              clear hK K
              try simp only [Act.put, List.getElem_toArray, List.getElem_cons_zero, List.getElem_cons_succ, List.setIfInBounds_toArray, List.set_cons_zero, List.set_cons_succ]
              refine wpAnyH_done (by kernel_rfl) ?_ _
              go_wp2_with fail
              go_ret
              exact ⟨rfl, HE.out.trans N3⟩

end Go.Proofs.Ytelenldabjmjbaa
