/- The walk of ShbCuts. Each theorem names its own conditions. -/
import Derived.Test.YtmadoehajapfhaaDoorShbLaw0
import Derived.Test.YtmadoehajapfhaaDoorHeldKit
namespace Go.Proofs.YtmadoehajapfhaaDoor
open Go.RowKit
set_option linter.unusedVariables false
set_option linter.unusedSimpArgs false

theorem row_formQ {w : World} {v : Value} {vs : List Value} (h : Row1 w v vs) : ∃ a n c, v = .slice a n c := by
  obtain ⟨a, c, rfl, _⟩ := h
  exact ⟨_, _, _, rfl⟩
theorem cut3Q (l : List UInt8) (p q : Nat) (h : p ≤ q) : [l.take p, (l.drop p).take (q - p), l.drop q].flatten = l := by
  have e : l.drop q = (l.drop p).drop (q - p) := by rw [List.drop_drop]; congr 1; omega
  simp only [List.flatten_cons, List.flatten_nil, List.append_nil]
  rw [e, List.take_append_drop, List.take_append_drop]
theorem cut4Q (l : List UInt8) (q : Nat) : [[], l.take q, [], l.drop q].flatten = l := by
  simp
/-- The hash of three lists, laid in a slice that was just made. -/
theorem Sum_threeQ (x y z : Value) (l m n o : List UInt8) (w : World) (hx : Row1 w x (l.map bval)) (hy : Row1 w y (m.map bval)) (hz : Row1 w z (n.map bval)) (ho : [l, m, n].flatten = o) (hl : o.length ≤ 1099511627776) (hG : GlobRQ w) :
    Calls Tryd.prog 17 #[.slice (some ⟨w.heap.size, 0, none⟩) 3 3] (w.alloc (.cells #[x, y, z] 25)) fun e w' => e = .returned (.agg ((sha512 o).map bval).toArray) ∧ Ext w w' := by
  subst ho
  have he := Ext.alloc w (.cells #[x, y, z] 25)
  exact (Sum_numQ _ [l, m, n] _ (rowB3 (Row1.made w #[x, y, z] 25 _ 3 [x, y, z] rfl rfl rfl (by unfold maxLen; omega)) (hx.below he) (hy.below he) (hz.below he)) hl (hG.ext he)).mono fun e w' hh => ⟨hh.1, he.trans hh.2⟩
/-- The hash of four lists, laid in a slice that was just made. -/
theorem Sum_fourQ (x y z u : Value) (l m n k o : List UInt8) (w : World) (hx : Row1 w x (l.map bval)) (hy : Row1 w y (m.map bval)) (hz : Row1 w z (n.map bval)) (hu : Row1 w u (k.map bval)) (ho : [l, m, n, k].flatten = o) (hl : o.length ≤ 1099511627776) (hG : GlobRQ w) :
    Calls Tryd.prog 17 #[.slice (some ⟨w.heap.size, 0, none⟩) 4 4] (w.alloc (.cells #[x, y, z, u] 25)) fun e w' => e = .returned (.agg ((sha512 o).map bval).toArray) ∧ Ext w w' := by
  subst ho
  have he := Ext.alloc w (.cells #[x, y, z, u] 25)
  exact (Sum_numQ _ [l, m, n, k] _ (rowB4 (Row1.made w #[x, y, z, u] 25 _ 4 [x, y, z, u] rfl rfl rfl (by unfold maxLen; omega)) (hx.below he) (hy.below he) (hz.below he) (hu.below he)) hl (hG.ext he)).mono fun e w' hh => ⟨hh.1, he.trans hh.2⟩
set_option maxRecDepth 100000 in
set_option maxHeartbeats 8000000 in
theorem shbCuts_any (v : Value) (l : List UInt8) (i k : Int) (w : World) (hv : Row1 w v (l.map bval)) (hi1 : -9223372036854775808 ≤ i) (hi2 : i ≤ 9223372036854775807) (hk1 : -9223372036854775808 ≤ k) (hk2 : k ≤ 9223372036854775807) (hG : GlobRQ w) (hK : GlobK5 w) :
    Calls Tryd.prog 9 #[v, .int .i64 i, .int .i64 k] w fun e w' => e = .returned (.bool true) ∧ Below w.heap.size w w' := by
  obtain ⟨iq, hq0, hq1, hq2⟩ := info_twoQ Tryd.info25
  have HQ0 := Lib.hid hq0
  have HQ1 := Lib.hid hq1
  have HQ2 := Lib.hid hq2
  clear hq0 hq1 hq2
  have HG := Lib.hid hG
  have HK := Lib.hid hK
  have HRW := Lib.hid hv
  obtain ⟨a, cap, hva, r1, r2, r3, r4⟩ := id hv
  rw [List.length_map] at hva r1
  unfold maxLen at r2
  have HVA := Lib.hid hva
  clear hG hK hv r3 r4 hva
  go_enter Tryd.func9, Tryd.ntmps9
  go_wp2_with fail
  refine (alive_anyQ w HG.out).mono ?_
  rintro e w1 ⟨rfl, hb⟩
  have HE : Hid (Ext w w1) := Lib.hid hb
  clear hb
  have hva := HVA.out
  subst hva
  have l0 : (0 : Int) ≤ (l.length : Int) := Int.natCast_nonneg _
  by_cases h0 : 1000 < l.length
  · have h0' : 1000 < (l.length : Int) := by omega
    go_wp2_with fail
    go_ret
    exact ⟨rfl, HE.out⟩
  · have h0' : (l.length : Int) ≤ 1000 := by omega
    by_cases h1 : i < 0
    · have d0 : decide (1000 < (l.length : Int)) = false := decide_eq_false (by omega)
      go_wp2_with fail
      go_ret
      exact ⟨rfl, HE.out⟩
    · by_cases h2 : k < i
      · have d0 : decide (1000 < (l.length : Int)) = false := decide_eq_false (by omega)
        have d1 : decide (i < 0) = false := decide_eq_false h1
        go_wp2_with fail
        go_ret
        exact ⟨rfl, HE.out⟩
      · by_cases h3 : (l.length : Int) < k
        · have d0 : decide (1000 < (l.length : Int)) = false := decide_eq_false (by omega)
          have d1 : decide (i < 0) = false := decide_eq_false h1
          have d2 : decide (k < i) = false := decide_eq_false h2
          go_wp2_with fail
          go_ret
          exact ⟨rfl, HE.out⟩
        · obtain ⟨p, rfl⟩ : ∃ p : Nat, i = (p : Int) := ⟨i.toNat, by omega⟩
          obtain ⟨q, rfl⟩ : ∃ q : Nat, k = (q : Int) := ⟨k.toNat, by omega⟩
          have hpq : p ≤ q := by omega
          have hql : q ≤ l.length := by omega
          have d0 : decide (1000 < (l.length : Int)) = false := decide_eq_false (by omega)
          have d1 : decide ((p : Int) < 0) = false := decide_eq_false h1
          have d2 : decide ((q : Int) < (p : Int)) = false := decide_eq_false h2
          have d2' : decide (q < p) = false := decide_eq_false (by omega)
          have d3 : decide ((l.length : Int) < (q : Int)) = false := decide_eq_false h3
          have d3' : decide (l.length < q) = false := decide_eq_false (by omega)
          have HLL : Hid (l.length ≤ 1000) := Lib.hid (by omega)
          obtain ⟨v1, hv1, hr1⟩ := row_upto Tryd.underlying25 Tryd.sizeOf5 HRW.out p (by rw [List.length_map]; omega)
          obtain ⟨v2, hv2, hr2⟩ := row_mid Tryd.underlying25 Tryd.sizeOf5 HRW.out p q hpq (by rw [List.length_map]; omega)
          obtain ⟨v3, hv3, hr3⟩ := row_cut Tryd.underlying25 Tryd.sizeOf5 HRW.out q (by rw [List.length_map]; omega)
          obtain ⟨v4, hv4, hr4⟩ := row_upto Tryd.underlying25 Tryd.sizeOf5 HRW.out q (by rw [List.length_map]; omega)
          rw [← List.map_take] at hv1 hv4
          rw [← List.map_drop, ← List.map_take] at hv2
          rw [← List.map_drop] at hv3
          obtain ⟨a1, n1, c1, rfl⟩ := row_formQ hv1
          obtain ⟨a2, n2, c2, rfl⟩ := row_formQ hv2
          obtain ⟨a3, n3, c3, rfl⟩ := row_formQ hv3
          obtain ⟨a4, n4, c4, rfl⟩ := row_formQ hv4
          have HV1 := Lib.hid hv1
          have HV2 := Lib.hid hv2
          have HV3 := Lib.hid hv3
          have HV4 := Lib.hid hv4
          clear hv1 hv2 hv3 hv4 h0 h1 h2 h3 hi1 hi2 hk1 hk2
          go_wp2_with fail
          refine (Sum_oneQ _ l w1 (HRW.out.below HE.out) (by have := HLL.out; omega) (HG.out.ext HE.out)).mono ?_
          rintro e w2 ⟨rfl, hb⟩
          have HE := Lib.hid (HE.out.trans hb)
          clear hb
          have HZ := Lib.hid (Blk.made w2 (ints .u8 (List.replicate 64 0)) 35)
          have HS2 := Lib.hid HE.out.size
          have HE4 := Lib.hid (HE.out.trans (Ext.alloc w2 (.cells (ints .u8 (List.replicate 64 0)).toArray 35)))
          have HL := Lib.hid (sha512_length l)
          have HIo : Hid ((Tryd.prog.info? 35).map (·.size) = some ((sha512 l).map bval).length) := Lib.hid (sig_size HL.out)
          have HLo : Hid (((sha512 l).map bval).length = (ints .u8 (List.replicate 64 0)).length) := Lib.hid (by rw [List.length_map, HL.out, ints_length, List.length_replicate])
          go_wp2_with (refine wpList_store_blk rfl _ _ _ rfl w2.heap.size ((sha512 l).map bval) rfl rfl _ _ HZ.out HLo.out HIo.out (bval_one _) ?_; intro w7 hb7 hg7)
          have HE := Lib.hid (ext_grown HE4.out hg7 HS2.out)
          have HB := Lib.hid hb7
          generalize w2.heap.size = B at *
          clear HE4 HZ hb7 hg7
          go_wp2_with fail
          try simp only [Act.put]
          have B0 : Ext w7 w7.drew := Ext.drew _
          refine wp_region_held_drew (S := fun w' => w'.rangeAt B 0 ((sha512 l).map bval)) (by kernel_rfl) (bl_range HB.out B0) (fun hHeld => ?_)
          refine wpAnyH_take (i := 0) (v := .agg ((sha512 l).map bval).toArray) rfl (by kernel_rfl) (by kernel_rfl) (by kernel_rfl) (fun _ _ _ h => h) (yieldsIf_load_mid (by rfl) _ _ rfl B 0 rfl _ _ (fun w h => h) Tryd.underlying35 rfl HIo.out) hHeld ?_
          simp only [Act.put, List.getElem_toArray, List.getElem_cons_zero, List.getElem_cons_succ, List.setIfInBounds_toArray, List.set_cons_zero, List.set_cons_succ]
          refine wpAnyH_take (i := 1) (v := .slice a l.length cap) rfl (by kernel_rfl) (by kernel_rfl) (by kernel_rfl) (fun _ _ _ h => h) (yi_move _ (.slice a l.length cap) (by rfl) rfl rfl) hHeld ?_
          simp only [Act.put, List.getElem_toArray, List.getElem_cons_zero, List.getElem_cons_succ, List.setIfInBounds_toArray, List.set_cons_zero, List.set_cons_succ]
          refine wpAnyH_ready (rs := [2]) (by kernel_rfl) (by simp) (AllReadyH.cons rfl (fun K hK => ?_) AllReadyH.nil)
          go_simp
          refine (rShb_any _ l _ (HRW.out.below (HE.out.trans B0)) (by have := HLL.out; omega) (HK.out.ext (HE.out.trans B0))).mono ?_
          rintro e m2 ⟨rfl, b1⟩
          have N1 := B0.trans b1
          refine hK.out _ _ (bl_range HB.out N1) (fun hHeld => ?_)
          clear hK K
          try simp only [Act.put, List.getElem_toArray, List.getElem_cons_zero, List.getElem_cons_succ, List.setIfInBounds_toArray, List.set_cons_zero, List.set_cons_succ]
          refine wpAnyH_take (i := 3) (v := .bool true) rfl (by kernel_rfl) (by kernel_rfl) (by kernel_rfl) (fun _ _ _ h => h) (yi_eql _ _ _ _ _ 64 _ (sha512 l) (sha512 l) true (by rfl) rfl (decide_eq_true (rfl)) Tryd.underlying35 Tryd.underlying5 byte_info byte_cells sig_guard rfl rfl (sha512_length _) (sha512_length _)) hHeld ?_
          simp only [Act.put, List.getElem_toArray, List.getElem_cons_zero, List.getElem_cons_succ, List.setIfInBounds_toArray, List.set_cons_zero, List.set_cons_succ]
          refine wpAnyH_take (i := 4) (v := .bool true) rfl (by kernel_rfl) (by kernel_rfl) (by kernel_rfl) (fun _ _ _ h => h) (yi_move _ (.bool true) (by rfl) rfl rfl) hHeld ?_
          simp only [Act.put, List.getElem_toArray, List.getElem_cons_zero, List.getElem_cons_succ, List.setIfInBounds_toArray, List.set_cons_zero, List.set_cons_succ]
          refine wpAnyH_take (i := 5) (v := .agg ((sha512 l).map bval).toArray) rfl (by kernel_rfl) (by kernel_rfl) (by kernel_rfl) (fun _ _ _ h => h) (yieldsIf_load_mid (by rfl) _ _ rfl B 0 rfl _ _ (fun w h => h) Tryd.underlying35 rfl HIo.out) hHeld ?_
          simp only [Act.put, List.getElem_toArray, List.getElem_cons_zero, List.getElem_cons_succ, List.setIfInBounds_toArray, List.set_cons_zero, List.set_cons_succ]
          refine wpAnyH_take (i := 6) (v := .slice a l.length cap) rfl (by kernel_rfl) (by kernel_rfl) (by kernel_rfl) (fun _ _ _ h => h) (yi_move _ (.slice a l.length cap) (by rfl) rfl rfl) hHeld ?_
          simp only [Act.put, List.getElem_toArray, List.getElem_cons_zero, List.getElem_cons_succ, List.setIfInBounds_toArray, List.set_cons_zero, List.set_cons_succ]
          refine wpAnyH_take (i := 7) (v := .int .i64 (p : Int)) rfl (by kernel_rfl) (by kernel_rfl) (by kernel_rfl) (fun _ _ _ h => h) (yi_move _ (.int .i64 (p : Int)) (by rfl) rfl rfl) hHeld ?_
          simp only [Act.put, List.getElem_toArray, List.getElem_cons_zero, List.getElem_cons_succ, List.setIfInBounds_toArray, List.set_cons_zero, List.set_cons_succ]
          refine wpAnyH_take (i := 8) (v := .slice a1 n1 c1) rfl (by kernel_rfl) (by kernel_rfl) (by kernel_rfl) (fun _ _ _ h => h) (yi_slice _ _ _ _ (.slice a l.length cap) (.slice a1 n1 c1) none (some (.int .i64 (p : Int))) (by rfl) rfl rfl rfl rfl hr1) hHeld ?_
          simp only [Act.put, List.getElem_toArray, List.getElem_cons_zero, List.getElem_cons_succ, List.setIfInBounds_toArray, List.set_cons_zero, List.set_cons_succ]
          refine wpAnyH_take (i := 9) (v := .slice a l.length cap) rfl (by kernel_rfl) (by kernel_rfl) (by kernel_rfl) (fun _ _ _ h => h) (yi_move _ (.slice a l.length cap) (by rfl) rfl rfl) hHeld ?_
          simp only [Act.put, List.getElem_toArray, List.getElem_cons_zero, List.getElem_cons_succ, List.setIfInBounds_toArray, List.set_cons_zero, List.set_cons_succ]
          refine wpAnyH_take (i := 10) (v := .int .i64 (p : Int)) rfl (by kernel_rfl) (by kernel_rfl) (by kernel_rfl) (fun _ _ _ h => h) (yi_move _ (.int .i64 (p : Int)) (by rfl) rfl rfl) hHeld ?_
          simp only [Act.put, List.getElem_toArray, List.getElem_cons_zero, List.getElem_cons_succ, List.setIfInBounds_toArray, List.set_cons_zero, List.set_cons_succ]
          refine wpAnyH_take (i := 11) (v := .int .i64 (q : Int)) rfl (by kernel_rfl) (by kernel_rfl) (by kernel_rfl) (fun _ _ _ h => h) (yi_move _ (.int .i64 (q : Int)) (by rfl) rfl rfl) hHeld ?_
          simp only [Act.put, List.getElem_toArray, List.getElem_cons_zero, List.getElem_cons_succ, List.setIfInBounds_toArray, List.set_cons_zero, List.set_cons_succ]
          refine wpAnyH_take (i := 12) (v := .slice a2 n2 c2) rfl (by kernel_rfl) (by kernel_rfl) (by kernel_rfl) (fun _ _ _ h => h) (yi_slice _ _ _ _ (.slice a l.length cap) (.slice a2 n2 c2) (some (.int .i64 (p : Int))) (some (.int .i64 (q : Int))) (by rfl) rfl rfl rfl rfl hr2) hHeld ?_
          simp only [Act.put, List.getElem_toArray, List.getElem_cons_zero, List.getElem_cons_succ, List.setIfInBounds_toArray, List.set_cons_zero, List.set_cons_succ]
          refine wpAnyH_take (i := 13) (v := .slice a l.length cap) rfl (by kernel_rfl) (by kernel_rfl) (by kernel_rfl) (fun _ _ _ h => h) (yi_move _ (.slice a l.length cap) (by rfl) rfl rfl) hHeld ?_
          simp only [Act.put, List.getElem_toArray, List.getElem_cons_zero, List.getElem_cons_succ, List.setIfInBounds_toArray, List.set_cons_zero, List.set_cons_succ]
          refine wpAnyH_take (i := 14) (v := .int .i64 (q : Int)) rfl (by kernel_rfl) (by kernel_rfl) (by kernel_rfl) (fun _ _ _ h => h) (yi_move _ (.int .i64 (q : Int)) (by rfl) rfl rfl) hHeld ?_
          simp only [Act.put, List.getElem_toArray, List.getElem_cons_zero, List.getElem_cons_succ, List.setIfInBounds_toArray, List.set_cons_zero, List.set_cons_succ]
          refine wpAnyH_take (i := 15) (v := .slice a3 n3 c3) rfl (by kernel_rfl) (by kernel_rfl) (by kernel_rfl) (fun _ _ _ h => h) (yi_slice _ _ _ _ (.slice a l.length cap) (.slice a3 n3 c3) (some (.int .i64 (q : Int))) none (by rfl) rfl rfl rfl rfl hr3) hHeld ?_
          simp only [Act.put, List.getElem_toArray, List.getElem_cons_zero, List.getElem_cons_succ, List.setIfInBounds_toArray, List.set_cons_zero, List.set_cons_succ]
          refine wpAnyH_ready (rs := [16]) (by kernel_rfl) (by simp) (AllReadyH.cons rfl (fun K hK => ?_) AllReadyH.nil)
          refine step_wp (by rfl) ?_
          refine wp_buildSlice_d (some 52) _ _ _ _ rfl rfl #[.slice a1 n1 c1, .slice a2 n2 c2, .slice a3 n3 c3] iq (.slice none 0 0) Tryd.underlying22 HQ0.out HQ1.out (by rw [HQ2.out]; decide) (by rw [HQ2.out]; decide) (by rw [HQ2.out]; kernel_rfl) ?_
          have N2 : Ext w7 (World.alloc m2 (.cells #[.slice a1 n1 c1, .slice a2 n2 c2, .slice a3 n3 c3] 25)) := N1.trans (Ext.alloc _ _)
          refine hK.out _ _ (bl_range HB.out N2) (fun hHeld => ?_)
          clear hK K
          try simp only [Act.put, List.getElem_toArray, List.getElem_cons_zero, List.getElem_cons_succ, List.setIfInBounds_toArray, List.set_cons_zero, List.set_cons_succ]
          refine wpAnyH_ready (rs := [17]) (by kernel_rfl) (by simp) (AllReadyH.cons rfl (fun K hK => ?_) AllReadyH.nil)
          go_simp
          refine (Sum_threeQ (.slice a1 n1 c1) (.slice a2 n2 c2) (.slice a3 n3 c3) (l.take p) ((l.drop p).take (q - p)) (l.drop q) l _ (HV1.out.below (HE.out.trans N1)) (HV2.out.below (HE.out.trans N1)) (HV3.out.below (HE.out.trans N1)) (cut3Q l p q hpq) (by have := HLL.out; omega) (HG.out.ext (HE.out.trans N1))).mono ?_
          rintro e m17 ⟨rfl, b3⟩
          have N3 := N1.trans b3
          refine hK.out _ _ (bl_range HB.out N3) (fun hHeld => ?_)
          clear hK K
          try simp only [Act.put, List.getElem_toArray, List.getElem_cons_zero, List.getElem_cons_succ, List.setIfInBounds_toArray, List.set_cons_zero, List.set_cons_succ]
          refine wpAnyH_take (i := 18) (v := .bool true) rfl (by kernel_rfl) (by kernel_rfl) (by kernel_rfl) (fun _ _ _ h => h) (yi_eql _ _ _ _ _ 64 _ (sha512 l) (sha512 l) true (by rfl) rfl (decide_eq_true (rfl)) Tryd.underlying35 Tryd.underlying5 byte_info byte_cells sig_guard rfl rfl (sha512_length _) (sha512_length _)) hHeld ?_
          simp only [Act.put, List.getElem_toArray, List.getElem_cons_zero, List.getElem_cons_succ, List.setIfInBounds_toArray, List.set_cons_zero, List.set_cons_succ]
          refine wpAnyH_take (i := 19) (v := .bool true) rfl (by kernel_rfl) (by kernel_rfl) (by kernel_rfl) (fun _ _ _ h => h) (yi_pick _ _ _ true _ (by rfl) rfl rfl rfl) hHeld ?_
          simp only [Act.put, List.getElem_toArray, List.getElem_cons_zero, List.getElem_cons_succ, List.setIfInBounds_toArray, List.set_cons_zero, List.set_cons_succ]
          refine wpAnyH_ready (rs := [20]) (by kernel_rfl) (by simp) (AllReadyH.cons rfl (fun K hK => ?_) AllReadyH.nil)
          go_simp
          refine hK.out _ _ (bl_range HB.out N3) (fun hHeld => ?_)
          clear hK K
          try simp only [Act.put, List.getElem_toArray, List.getElem_cons_zero, List.getElem_cons_succ, List.setIfInBounds_toArray, List.set_cons_zero, List.set_cons_succ]
          refine wpAnyH_done (by kernel_rfl) ?_ _
          go_wp2_with fail
          go_ret
          exact ⟨rfl, HE.out.trans N3⟩

end Go.Proofs.YtmadoehajapfhaaDoor
