/- The walks of the document's own Check and SameNums. Each theorem names its own conditions. -/
import Derived.Test.YtcadfccijeodbaaDoorRefMerU
import Derived.Test.YtcadfccijeodbaaDoorDetEql
import Derived.Test.YtcadfccijeodbaaDoorDetLoad
namespace Go.Proofs.YtcadfccijeodbaaDoor
open Go.RowKit
set_option linter.unusedVariables false
set_option linter.unusedSimpArgs false

/-- Does a path lead from a place to a root? -/
def merC (root : List UInt8) (n i : Int) (b : List UInt8) (p : List (List UInt8)) : Bool := decide (0 ≤ i ∧ i < n ∧ n ≤ 1048576) && decide (merU n.toNat i.toNat b p = some root)
theorem merC_out {root : List UInt8} {n i : Int} {b : List UInt8} {p : List (List UInt8)} (h : ¬ (0 ≤ i ∧ i < n ∧ n ≤ 1048576)) : merC root n i b p = false := by
  unfold merC
  rw [decide_eq_false h, Bool.false_and]
theorem merC_in {root : List UInt8} {n i : Nat} (b : List UInt8) (p : List (List UInt8)) (h1 : i < n) (h2 : n ≤ 1048576) : merC root (n : Int) (i : Int) b p = decide (merU n i b p = some root) := by
  unfold merC
  rw [decide_eq_true (by omega), Bool.true_and, Int.toNat_natCast, Int.toNat_natCast]

set_option maxRecDepth 100000 in
set_option maxHeartbeats 4000000 in
theorem rCheck_any (root : List UInt8) (n i : Int) (b : List UInt8) (p : List (List UInt8)) (bv pv : Value) (w : World) (hr : root.length = 32) (hn1 : -9223372036854775808 ≤ n) (hn2 : n ≤ 9223372036854775807) (hi1 : -9223372036854775808 ≤ i) (hi2 : i ≤ 9223372036854775807) (hbl : b.length ≤ 1000000000) (hpl : p.length ≤ 1000000000) (hb : Row1 w bv (b.map bval)) (hp : RowN w pv p) (hG : GlobK w) :
    Calls Tryd.prog 17 #[.agg (root.map bval).toArray, .int .i64 n, .int .i64 i, bv, pv] w fun e w' => e = .returned (.bool (merC root n i b p)) ∧ Below w.heap.size w w' := by
  have HRL := Lib.hid hr
  have HIR := Lib.hid (num_size hr)
  have HBL := Lib.hid hbl
  have HPL := Lib.hid hpl
  have HB := Lib.hid hb
  have HP := Lib.hid hp
  have HG := Lib.hid hG
  have HB0 := Lib.hid (Blk.made w (root.map bval) 26)
  have HE0 := Lib.hid (Ext.alloc w (.cells (root.map bval).toArray 26))
  clear hr hbl hpl hb hp hG
  go_enter Tryd.func17, Tryd.ntmps17
  go_upto_region 1 with (fail)
  change Code.wp _ _ _ _ (w.alloc (.cells (root.map bval).toArray 26))
  generalize w.alloc (.cells (root.map bval).toArray 26) = wa at *
  obtain ⟨A, hA⟩ : ∃ A, A = w.heap.size := ⟨_, rfl⟩
  rw [← hA] at HB0 ⊢
  clear hA
  by_cases c1 : i < 0
  · have HQ : Hid (merC root n i b p = false) := Lib.hid (merC_out (by omega))
    go_wp2_with fail
    go_ret
    exact ⟨by rw [HQ.out]; rfl, HE0.out⟩
  · by_cases c2 : n ≤ i
    · have HQ : Hid (merC root n i b p = false) := Lib.hid (merC_out (by omega))
      go_wp2_with fail
      go_ret
      exact ⟨by rw [HQ.out]; rfl, HE0.out⟩
    · by_cases c3 : 1048576 < n
      · have HQ : Hid (merC root n i b p = false) := Lib.hid (merC_out (by omega))
        go_wp2_with fail
        go_ret
        exact ⟨by rw [HQ.out]; rfl, HE0.out⟩
      · obtain ⟨m, rfl⟩ : ∃ m : Nat, n = (m : Int) := ⟨n.toNat, by omega⟩
        obtain ⟨j, rfl⟩ : ∃ j : Nat, i = (j : Int) := ⟨i.toNat, by omega⟩
        have HQ := Lib.hid (merC_in (root := root) (n := m) (i := j) b p (by omega) (by omega))
        have HU := Lib.hid (rUp_any m j b p bv pv wa (by omega) (by omega) (by omega) HBL.out HPL.out (HB.out.below HE0.out) (HP.out.below HE0.out) (HG.out.ext HE0.out))
        generalize merU m j b p = u at *
        go_wp2_with fail
        refine HU.out.mono ?_
        rintro e w1 ⟨h, hl, rfl, hh, hb⟩
        have HL := Lib.hid hl
        have HH := Lib.hid hh
        have HIh := Lib.hid (num_size HL.out)
        have HLh : Hid ((h.map bval).length = (ints .u8 (List.replicate 32 0)).length) := Lib.hid (by rw [List.length_map, HL.out, ints_length, List.length_replicate])
        have HB0 := Lib.hid (ext_blk HB0.out hb)
        have HE := Lib.hid (HE0.out.trans hb)
        have HZ := Lib.hid (Blk.made w1 (ints .u8 (List.replicate 32 0)) 26)
        have HEA := Lib.hid (Ext.alloc w1 (.cells (ints .u8 (List.replicate 32 0)).toArray 26))
        clear hl hh hb HU HE0
        go_upto_region 4 with (refine wpList_store_blk rfl _ _ _ rfl w1.heap.size (h.map bval) rfl rfl _ _ HZ.out HLh.out HIh.out (bval_one _) ?_; intro w2 hb2 hg2)
        have HX := Lib.hid (ext_grown HEA.out hg2 (Nat.le_refl _))
        have HB0 := Lib.hid (ext_blk HB0.out HX.out)
        have HE := Lib.hid (HE.out.trans HX.out)
        have HD := Lib.hid hb2
        generalize w1.heap.size = D at *
        clear hb2 hg2 HZ HEA HX
        cases u with
        | none =>
          have hs : (none : Option (List UInt8)).isSome = false := rfl
          have HF : Hid (decide ((none : Option (List UInt8)) = some root) = false) := Lib.hid rfl
          rw [hs]
          go_wp2_with fail
          go_ret
          exact ⟨by rw [HQ.out, HF.out]; rfl, HE.out⟩
        | some r =>
          have hs : (some r : Option (List UInt8)).isSome = true := rfl
          obtain rfl : h = r := HH.out r rfl
          rw [hs]
          obtain ⟨q, hq⟩ : ∃ q, q = decide (h = root) := ⟨_, rfl⟩
          have HD2 := Lib.hid hq.symm
          have HF : Hid (decide (some h = some root) = q) := Lib.hid (by rw [hq]; exact decide_eq_decide.2 ⟨Option.some.inj, congrArg some⟩)
          clear hs hq HH
          go_wp2_with (first | (refine wpList_eql (by rfl) _ _ _ _ _ _ 32 _ h root q rfl (Or.inl ⟨rfl, HD2.out⟩) Tryd.underlying26 Tryd.underlying5 num_info num_cells num_guard rfl rfl HL.out HRL.out ?_) | (refine wpList_load_w (by rfl) _ _ rfl D rfl _ _ _ _ HD.out Tryd.underlying26 HIh.out ?_) | (refine wpList_load_w (by rfl) _ _ rfl A rfl _ _ _ _ HB0.out Tryd.underlying26 HIR.out ?_))
          go_ret
          exact ⟨by rw [HQ.out, HF.out]; rfl, HE.out⟩

theorem rng_below {w w' : World} {b o : Nat} {cs : List Value} (h : w.rangeAt b o cs) (hb : Ext w w') : w'.rangeAt b o cs := fun j v hj => (hb.cell (World.block_lt_of_cell? w _ (h j v hj))).trans (h j v hj)

set_option maxRecDepth 100000 in
set_option maxHeartbeats 4000000 in
theorem rSame_any (p q : List (List UInt8)) (pv qv : Value) (w : World) (hp : RowN w pv p) (hq : RowN w qv q) :
    Calls Tryd.prog 14 #[pv, qv] w fun e w' => e = .returned (.bool (decide (p = q))) ∧ Below w.heap.size w w' := by
  obtain ⟨ap, cp, rfl, p1, p2⟩ := hp.form
  obtain ⟨aq, cq, rfl, q1, q2⟩ := hq.form
  unfold maxLen at p2 q2
  have HP := Lib.hid hp
  have HQ := Lib.hid hq
  clear hp hq
  by_cases hl : p.length = q.length
  · have hl' : (p.length : Int) = (q.length : Int) := by omega
    obtain ⟨bb, hbb⟩ : ∃ bb, bb = decide (p = q) := ⟨_, rfl⟩
    rw [← hbb]
    have HBB := Lib.hid hbb
    have HL := Lib.hid hl
    clear hbb hl
    have l0 : (0 : Int) ≤ (p.length : Int) := Int.natCast_nonneg _
    go_enter Tryd.func14, Tryd.ntmps14
    go_wp2_with fail
    go_loopw [5] (fun iv wr => ∃ k : Nat, k ≤ p.length ∧ iv = .int .i64 (k : Int) ∧ (∀ j, j < k → p.getD j [] = q.getD j []) ∧ Ext w wr) (fun iv _ => p.length - (intOf iv).toNat)
    case atStart => exact ⟨0, Nat.zero_le _, rfl, (fun j hj => by omega), Ext.refl w⟩
    case round =>
      obtain ⟨k, hk, rfl, hall, hE⟩ := hrel
      have HA := Lib.hid hall
      have HE := Lib.hid hE
      have k0 : (0 : Int) ≤ (k : Int) := Int.natCast_nonneg _
      clear hall hE
      by_cases hkl : k < p.length
      · have k1 : (k : Int) < (p.length : Int) := by omega
        have k2 : (k : Int) < (q.length : Int) := by omega
        have hkq : k < q.length := by have := HL.out; omega
        obtain ⟨b1, o1, rfl, _, he1⟩ := HP.out.elem (by omega)
        obtain ⟨b2, o2, rfl, _, he2⟩ := HQ.out.elem (by omega)
        have HE1 := Lib.hid (rng_below (he1 k hkl) HE.out)
        have HE2 := Lib.hid (rng_below (he2 k hkq) HE.out)
        have HX : Hid ((p.getD k []).length = 32) := Lib.hid (Nums.getD HP.out.nums hkl)
        have HY : Hid ((q.getD k []).length = 32) := Lib.hid (Nums.getD HQ.out.nums hkq)
        have HNE : Hid (p.getD k [] ≠ q.getD k [] → bb = false) := Lib.hid (fun h => by
          rw [HBB.out]
          exact decide_eq_false (fun e => h (by rw [e])))
        have HEQ : Hid (p.getD k [] = q.getD k [] → ∀ j, j < k + 1 → p.getD j [] = q.getD j []) := Lib.hid (fun h j hj => by
          by_cases e : j = k
          · rw [e]; exact h
          · exact HA.out j (by omega))
        generalize p.getD k [] = x at *
        generalize q.getD k [] = y at *
        have HIX := Lib.hid (num_size HX.out)
        have HIY := Lib.hid (num_size HY.out)
        clear he1 he2
        by_cases hxy : x = y
        · have HD := Lib.hid (decide_eq_true hxy)
          have HEQ := Lib.hid (HEQ.out hxy)
          clear hxy
          go_upto_region 6 with (fail)
          have B0 : Ext wr wr.drew := Ext.drew _
          refine wp_region_held_drew (S := fun w' => Ext wr w') (by kernel_rfl) B0 (fun hHeld => ?_)
          refine wpAnyH_take (i := 0) (v := .slice (some ⟨b1, o1, none⟩) p.length cp) rfl (by kernel_rfl) (by kernel_rfl) (by kernel_rfl) (fun _ _ _ h => h) (yi_move _ (.slice (some ⟨b1, o1, none⟩) p.length cp) (by rfl) rfl rfl) hHeld ?_
          simp only [Act.put, List.getElem_toArray, List.getElem_cons_zero, List.getElem_cons_succ, List.setIfInBounds_toArray, List.set_cons_zero, List.set_cons_succ]
          refine wpAnyH_take (i := 1) (v := .int .i64 (k : Int)) rfl (by kernel_rfl) (by kernel_rfl) (by kernel_rfl) (fun _ _ _ h => h) (yi_move _ (.int .i64 (k : Int)) (by rfl) rfl rfl) hHeld ?_
          simp only [Act.put, List.getElem_toArray, List.getElem_cons_zero, List.getElem_cons_succ, List.setIfInBounds_toArray, List.set_cons_zero, List.set_cons_succ]
          refine wpAnyH_take (i := 2) (v := .pointer (some ⟨b1, o1 + k * 32, none⟩)) rfl (by kernel_rfl) (by kernel_rfl) (by kernel_rfl) (fun _ _ _ h => h) (yi_val (.pointer (some ⟨b1, o1 + k * 32, none⟩)) (by rfl) (fun w _ => by go_simp)) hHeld ?_
          simp only [Act.put, List.getElem_toArray, List.getElem_cons_zero, List.getElem_cons_succ, List.setIfInBounds_toArray, List.set_cons_zero, List.set_cons_succ]
          refine wpAnyH_take (i := 3) (v := .agg ((x).map bval).toArray) rfl (by kernel_rfl) (by kernel_rfl) (by kernel_rfl) (fun _ _ _ h => h) (yieldsIf_load_mid (by rfl) _ _ rfl b1 (o1 + k * 32) rfl _ _ (fun w h => rng_below HE1.out h) Tryd.underlying26 rfl HIX.out) hHeld ?_
          simp only [Act.put, List.getElem_toArray, List.getElem_cons_zero, List.getElem_cons_succ, List.setIfInBounds_toArray, List.set_cons_zero, List.set_cons_succ]
          refine wpAnyH_take (i := 4) (v := .slice (some ⟨b2, o2, none⟩) q.length cq) rfl (by kernel_rfl) (by kernel_rfl) (by kernel_rfl) (fun _ _ _ h => h) (yi_move _ (.slice (some ⟨b2, o2, none⟩) q.length cq) (by rfl) rfl rfl) hHeld ?_
          simp only [Act.put, List.getElem_toArray, List.getElem_cons_zero, List.getElem_cons_succ, List.setIfInBounds_toArray, List.set_cons_zero, List.set_cons_succ]
          refine wpAnyH_take (i := 5) (v := .int .i64 (k : Int)) rfl (by kernel_rfl) (by kernel_rfl) (by kernel_rfl) (fun _ _ _ h => h) (yi_move _ (.int .i64 (k : Int)) (by rfl) rfl rfl) hHeld ?_
          simp only [Act.put, List.getElem_toArray, List.getElem_cons_zero, List.getElem_cons_succ, List.setIfInBounds_toArray, List.set_cons_zero, List.set_cons_succ]
          refine wpAnyH_take (i := 6) (v := .pointer (some ⟨b2, o2 + k * 32, none⟩)) rfl (by kernel_rfl) (by kernel_rfl) (by kernel_rfl) (fun _ _ _ h => h) (yi_val (.pointer (some ⟨b2, o2 + k * 32, none⟩)) (by rfl) (fun w _ => by go_simp)) hHeld ?_
          simp only [Act.put, List.getElem_toArray, List.getElem_cons_zero, List.getElem_cons_succ, List.setIfInBounds_toArray, List.set_cons_zero, List.set_cons_succ]
          refine wpAnyH_take (i := 7) (v := .agg ((y).map bval).toArray) rfl (by kernel_rfl) (by kernel_rfl) (by kernel_rfl) (fun _ _ _ h => h) (yieldsIf_load_mid (by rfl) _ _ rfl b2 (o2 + k * 32) rfl _ _ (fun w h => rng_below HE2.out h) Tryd.underlying26 rfl HIY.out) hHeld ?_
          simp only [Act.put, List.getElem_toArray, List.getElem_cons_zero, List.getElem_cons_succ, List.setIfInBounds_toArray, List.set_cons_zero, List.set_cons_succ]
          refine wpAnyH_take (i := 8) (v := .bool false) rfl (by kernel_rfl) (by kernel_rfl) (by kernel_rfl) (fun _ _ _ h => h) (yi_neqB _ _ _ _ _ 32 _ (x) (y) false (by rfl) rfl (HD.out) Tryd.underlying26 Tryd.underlying5 num_info num_cells num_guard rfl rfl (HX.out) (HY.out)) hHeld ?_
          simp only [Act.put, List.getElem_toArray, List.getElem_cons_zero, List.getElem_cons_succ, List.setIfInBounds_toArray, List.set_cons_zero, List.set_cons_succ]
          refine wpAnyH_done (by kernel_rfl) ?_ _
          have HE := Lib.hid (HE.out.trans B0)
          go_wp2_with fail
          go_round
          case rel => exact ⟨k + 1, by omega, by go_num, HEQ.out, HE.out⟩
          case measure => simp [intOf]; omega
        · have HD := Lib.hid (decide_eq_false hxy)
          have HNE := Lib.hid (HNE.out hxy)
          clear hxy
          go_upto_region 6 with (fail)
          have B0 : Ext wr wr.drew := Ext.drew _
          refine wp_region_held_drew (S := fun w' => Ext wr w') (by kernel_rfl) B0 (fun hHeld => ?_)
          refine wpAnyH_take (i := 0) (v := .slice (some ⟨b1, o1, none⟩) p.length cp) rfl (by kernel_rfl) (by kernel_rfl) (by kernel_rfl) (fun _ _ _ h => h) (yi_move _ (.slice (some ⟨b1, o1, none⟩) p.length cp) (by rfl) rfl rfl) hHeld ?_
          simp only [Act.put, List.getElem_toArray, List.getElem_cons_zero, List.getElem_cons_succ, List.setIfInBounds_toArray, List.set_cons_zero, List.set_cons_succ]
          refine wpAnyH_take (i := 1) (v := .int .i64 (k : Int)) rfl (by kernel_rfl) (by kernel_rfl) (by kernel_rfl) (fun _ _ _ h => h) (yi_move _ (.int .i64 (k : Int)) (by rfl) rfl rfl) hHeld ?_
          simp only [Act.put, List.getElem_toArray, List.getElem_cons_zero, List.getElem_cons_succ, List.setIfInBounds_toArray, List.set_cons_zero, List.set_cons_succ]
          refine wpAnyH_take (i := 2) (v := .pointer (some ⟨b1, o1 + k * 32, none⟩)) rfl (by kernel_rfl) (by kernel_rfl) (by kernel_rfl) (fun _ _ _ h => h) (yi_val (.pointer (some ⟨b1, o1 + k * 32, none⟩)) (by rfl) (fun w _ => by go_simp)) hHeld ?_
          simp only [Act.put, List.getElem_toArray, List.getElem_cons_zero, List.getElem_cons_succ, List.setIfInBounds_toArray, List.set_cons_zero, List.set_cons_succ]
          refine wpAnyH_take (i := 3) (v := .agg ((x).map bval).toArray) rfl (by kernel_rfl) (by kernel_rfl) (by kernel_rfl) (fun _ _ _ h => h) (yieldsIf_load_mid (by rfl) _ _ rfl b1 (o1 + k * 32) rfl _ _ (fun w h => rng_below HE1.out h) Tryd.underlying26 rfl HIX.out) hHeld ?_
          simp only [Act.put, List.getElem_toArray, List.getElem_cons_zero, List.getElem_cons_succ, List.setIfInBounds_toArray, List.set_cons_zero, List.set_cons_succ]
          refine wpAnyH_take (i := 4) (v := .slice (some ⟨b2, o2, none⟩) q.length cq) rfl (by kernel_rfl) (by kernel_rfl) (by kernel_rfl) (fun _ _ _ h => h) (yi_move _ (.slice (some ⟨b2, o2, none⟩) q.length cq) (by rfl) rfl rfl) hHeld ?_
          simp only [Act.put, List.getElem_toArray, List.getElem_cons_zero, List.getElem_cons_succ, List.setIfInBounds_toArray, List.set_cons_zero, List.set_cons_succ]
          refine wpAnyH_take (i := 5) (v := .int .i64 (k : Int)) rfl (by kernel_rfl) (by kernel_rfl) (by kernel_rfl) (fun _ _ _ h => h) (yi_move _ (.int .i64 (k : Int)) (by rfl) rfl rfl) hHeld ?_
          simp only [Act.put, List.getElem_toArray, List.getElem_cons_zero, List.getElem_cons_succ, List.setIfInBounds_toArray, List.set_cons_zero, List.set_cons_succ]
          refine wpAnyH_take (i := 6) (v := .pointer (some ⟨b2, o2 + k * 32, none⟩)) rfl (by kernel_rfl) (by kernel_rfl) (by kernel_rfl) (fun _ _ _ h => h) (yi_val (.pointer (some ⟨b2, o2 + k * 32, none⟩)) (by rfl) (fun w _ => by go_simp)) hHeld ?_
          simp only [Act.put, List.getElem_toArray, List.getElem_cons_zero, List.getElem_cons_succ, List.setIfInBounds_toArray, List.set_cons_zero, List.set_cons_succ]
          refine wpAnyH_take (i := 7) (v := .agg ((y).map bval).toArray) rfl (by kernel_rfl) (by kernel_rfl) (by kernel_rfl) (fun _ _ _ h => h) (yieldsIf_load_mid (by rfl) _ _ rfl b2 (o2 + k * 32) rfl _ _ (fun w h => rng_below HE2.out h) Tryd.underlying26 rfl HIY.out) hHeld ?_
          simp only [Act.put, List.getElem_toArray, List.getElem_cons_zero, List.getElem_cons_succ, List.setIfInBounds_toArray, List.set_cons_zero, List.set_cons_succ]
          refine wpAnyH_take (i := 8) (v := .bool true) rfl (by kernel_rfl) (by kernel_rfl) (by kernel_rfl) (fun _ _ _ h => h) (yi_neqB _ _ _ _ _ 32 _ (x) (y) true (by rfl) rfl (HD.out) Tryd.underlying26 Tryd.underlying5 num_info num_cells num_guard rfl rfl (HX.out) (HY.out)) hHeld ?_
          simp only [Act.put, List.getElem_toArray, List.getElem_cons_zero, List.getElem_cons_succ, List.setIfInBounds_toArray, List.set_cons_zero, List.set_cons_succ]
          refine wpAnyH_done (by kernel_rfl) ?_ _
          have HE := Lib.hid (HE.out.trans B0)
          go_wp2_with fail
          go_ret
          exact ⟨by rw [HNE.out]; rfl, HE.out⟩
      · have k1 : ¬ (k : Int) < (p.length : Int) := by omega
        have HT : Hid (bb = true) := Lib.hid (by
          rw [HBB.out]
          refine decide_eq_true (List.ext_getElem HL.out (fun j h1 h2 => ?_))
          have h := HA.out j (by omega)
          rw [List.getD_eq_getElem?_getD, List.getD_eq_getElem?_getD, List.getElem?_eq_getElem h1, List.getElem?_eq_getElem h2] at h
          exact h)
        go_wp2_with fail
        go_ret
        exact ⟨by rw [HT.out]; rfl, HE.out⟩
  · have hl' : ¬ (p.length : Int) = (q.length : Int) := by omega
    have HF : Hid (decide (p = q) = false) := Lib.hid (decide_eq_false (fun e => hl (by rw [e])))
    go_enter Tryd.func14, Tryd.ntmps14
    go_wp2_with fail
    go_ret
    exact ⟨by rw [HF.out]; rfl, Below.refl _ _⟩

end Go.Proofs.YtcadfccijeodbaaDoor
