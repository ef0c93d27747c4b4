/- The walks of the document's own up, Check, SameNums. Laid by wip/gen/gmeru.py. Each theorem names its own conditions. -/
import Derived.Test.YtcadfccijeodbaaDoorRefMer
namespace Go.Proofs.YtcadfccijeodbaaDoor
open Go.RowKit
set_option linter.unusedVariables false
set_option linter.unusedSimpArgs false

/-- s[:k], as the walk says it. -/
theorem rowN_take {w : World} {a : Option Addr} {n cap : Nat} {ps : List (List UInt8)} (h : RowN w (.slice a n cap) ps) (k : Nat) (hk : k ≤ ps.length) : RowN w (.slice a k cap) (ps.take k) := by
  obtain ⟨h0, a', cap', hv, h1, h2, h3, h4⟩ := h
  injection hv with e1 e2 e3
  subst e1 e3
  have hl : (ps.take k).length = k := by rw [List.length_take]; omega
  refine ⟨h0.take k, a, cap, by rw [hl], by rw [hl]; omega, h2, h3, fun hne => ?_⟩
  obtain ⟨b, off, ha, hb, hc⟩ := h4 (by rintro rfl; simp at hne)
  refine ⟨b, off, ha, hb, fun i hi => ?_⟩
  rw [hl] at hi
  rw [hc i (by omega), List.getElem?_map, List.getElem?_map, flat_take h0, List.getElem?_take, if_pos hi]

def UpSaid (n : Nat) : Prop := ∀ (i : Nat) (b : List UInt8) (p : List (List UInt8)) (bv pv : Value) (w : World), 0 < n → n ≤ 1152921504606846976 → i < n → b.length ≤ 1000000000 → p.length ≤ 1000000000 → Row1 w bv (b.map bval) → RowN w pv p → GlobK w →
    Calls Tryd.prog 25 #[.int .i64 (n : Int), .int .i64 (i : Int), bv, pv] w fun e w' => ∃ h : List UInt8, h.length = 32 ∧ e = .returned (.tuple #[.agg (h.map bval).toArray, .bool (merU n i b p).isSome]) ∧ (∀ r, merU n i b p = some r → h = r) ∧ Below w.heap.size w w'

set_option maxRecDepth 100000 in
set_option maxHeartbeats 8000000 in
theorem rUp_step (n : Nat) (ih : ∀ k, k < n → UpSaid k) : UpSaid n := by
  intro i b p bv pv w hn0 hn hin hbl hpl hb hp hG
  obtain ⟨i0, hi, hz0, hz1, hz2⟩ := info_parts Tryd.info5
  have HI0 := Lib.hid hi
  have HZ0 := Lib.hid hz0
  have HZ1 := Lib.hid hz1
  have HZ2 := Lib.hid hz2
  have HIH := Lib.hid ih
  have HG := Lib.hid hG
  have HNL := Lib.hid hn
  have HN0 := Lib.hid hn0
  have HIN := Lib.hid hin
  have HBL := Lib.hid hbl
  have HPL := Lib.hid hpl
  obtain ⟨ab, capb, hbv, _⟩ := id hb
  rw [List.length_map] at hbv
  subst hbv
  obtain ⟨ap, capp, rfl, p1, p2⟩ := hp.form
  unfold maxLen at p2
  have HR0 := Lib.hid hb
  have HP0 := Lib.hid hp
  have HB0 := Lib.hid (Blk.made w (ints .u8 (List.replicate 32 0)) 26)
  have HE0 := Lib.hid (Ext.alloc w (.cells (ints .u8 (List.replicate 32 0)).toArray 26))
  have HNI : Hid ((Tryd.prog.info? 26).map (·.size) = some (ints .u8 (List.replicate 32 0)).length) := Lib.hid (by rw [show (ints .u8 (List.replicate 32 0)) = zer.map bval from rfl]; exact num_size zer_length)
  have n0 : (0 : Int) ≤ (n : Int) := Int.natCast_nonneg _
  have i0' : (0 : Int) ≤ (i : Int) := Int.natCast_nonneg _
  have p0 : (0 : Int) ≤ (p.length : Int) := Int.natCast_nonneg _
  clear ih hG hn hn0 hin hbl hpl hb hp hi hz0 hz1 hz2
  go_enter Tryd.func25, Tryd.ntmps25
  go_upto_region 1 with (fail)
  change Code.wp _ _ _ _ (w.alloc (.cells (ints .u8 (List.replicate 32 0)).toArray 26))
  generalize w.alloc (.cells (ints .u8 (List.replicate 32 0)).toArray 26) = wa at *
  obtain ⟨A, hA⟩ : ∃ A, A = w.heap.size := ⟨_, rfl⟩
  have HLA : Hid (w.heap.size ≤ A) := Lib.hid (by omega)
  rw [← hA] at HB0 ⊢
  have HR := Lib.hid (HR0.out.below HE0.out)
  have HP := Lib.hid (HP0.out.below HE0.out)
  clear hA HR0 HP0
  by_cases h1 : n = 1
  · have h1' : (n : Int) = 1 := by omega
    obtain ⟨q, hq⟩ : ∃ q : Bool, q = decide (p.length = 0) := ⟨_, rfl⟩
    have HU : Hid ((merU n i b p).isSome = q ∧ ∀ r, merU n i b p = some r → sha256 (0 :: b) = r) := Lib.hid (by
      rw [h1, merU_one, hq]
      by_cases e : p.length = 0
      · rw [if_pos e, decide_eq_true e]
        exact ⟨rfl, fun r h => Option.some.inj h⟩
      · rw [if_neg e, decide_eq_false e]
        exact ⟨rfl, fun r h => by cases h⟩)
    have hq2 : ((p.length : Int) == 0) = q := by
      rw [hq]
      by_cases e : p.length = 0
      · rw [decide_eq_true e, e]; rfl
      · rw [decide_eq_false e]; exact beq_false_of_ne (by omega)
    have HEA := Lib.hid (Ext.alloc wa (.cells #[.int .u8 0] 5))
    have HRX := Lib.hid (HR.out.below HEA.out)
    have HO := Lib.hid (own_made wa #[.int .u8 0] wa.heap.size 5 1 (([0] : List UInt8).map bval) rfl rfl (by unfold maxLen; omega) (Nat.le_refl _))
    have HSZ := Lib.hid (HEA.out.size)
    have HSL : Hid ((sha256 (0 :: b)).length = 32) := Lib.hid (sha256_length _)
    clear hq h1
    go_wp2_with (at_builtin; refine wpList_append_row rfl _ _ 34 rfl wa.heap.size 5 i0 (.int .u8 0) 1 Tryd.underlying34 HI0.out HZ0.out HZ1.out HZ2.out rfl _ _ _ rfl HO.out rfl HRX.out (bval_one _) (by have := HBL.out; rw [List.length_map]; unfold maxLen; omega) (by have := HBL.out; rw [List.length_map]; omega) HSZ.out ?_; intro v4 w4 hown4 hgrow4)
    have HX4 := Lib.hid (ext_own HEA.out HO.out (Nat.le_refl _) hgrow4)
    have HR4 : Hid (Row1 w4 v4 ((0 :: b).map bval)) := Lib.hid (by have h := Row1.of_own hown4; simpa using h)
    clear hown4 hgrow4 HO HRX
    refine (rSha_any v4 (0 :: b) w4 HR4.out (by have := HBL.out; rw [List.length_cons]; omega) (HG.out.ext (HE0.out.trans HX4.out))).mono ?_
    rintro e w1 ⟨rfl, hb⟩
    have HB1 := Lib.hid (ext_blk HB0.out (HX4.out.trans hb))
    have HE1 := Lib.hid (HE0.out.trans (HX4.out.trans hb))
    clear hb HR4
    obtain ⟨h, hh⟩ : ∃ h, h = sha256 (0 :: b) := ⟨_, rfl⟩
    rw [← hh] at HU HSL ⊢
    clear hh
    have HIh := Lib.hid (num_size HSL.out)
    have HLh : Hid ((h.map bval).length = (ints .u8 (List.replicate 32 0)).length) := Lib.hid (by rw [List.length_map, HSL.out, ints_length, List.length_replicate])
    go_wp2_with (refine wpList_store_blk rfl _ _ _ rfl A (h.map bval) rfl rfl _ _ HB1.out HLh.out HIh.out (bval_one _) ?_; intro w10 hb10 hg10)
    refine bodyPost_ret (result_row_tmp (p := 8) (u := 9) (by rfl) _ A _ _ _ (by rfl) hb10 Tryd.underlying26 rfl HIh.out) rfl ⟨h, HSL.out, by rw [HU.out.1]; rfl, HU.out.2, ext_grown HE1.out hg10 HLA.out⟩
  · have h1' : ¬ (n : Int) = 1 := by omega
    have h2 : 2 ≤ n := by have := HN0.out; omega
    by_cases hp0 : p.length = 0
    · have hp0' : (p.length : Int) = 0 := by omega
      have HU := Lib.hid (merU_none i b h2 hp0)
      go_wp2_with (refine wpList_store_blk rfl _ _ _ rfl A (ints .u8 (List.replicate 32 0)) rfl rfl _ _ HB0.out rfl HNI.out (ints_one _ _) ?_; intro w10 hb10 hg10)
      refine bodyPost_ret (result_row_tmp (p := 8) (u := 9) (by rfl) _ A _ _ _ (by rfl) hb10 Tryd.underlying26 rfl HNI.out) rfl ⟨zer, zer_length, by rw [HU.out]; rfl, fun r h => (by rw [HU.out] at h; cases h), ext_grown HE0.out hg10 HLA.out⟩
    · have hp0' : ¬ (p.length : Int) = 0 := by omega
      have HK1 := Lib.hid (merK_lt h2)
      have HK0 := Lib.hid (merK_pos n)
      have HH := Lib.hid (fun w' => rhalf_any n w' h2 HNL.out)
      obtain ⟨k, hk⟩ : ∃ k, k = merK n := ⟨_, rfl⟩
      rw [← hk] at HK1 HK0 HH
      have k0 : (0 : Int) ≤ (k : Int) := Int.natCast_nonneg _
      have k1 : (k : Int) ≤ (n : Int) := by have := HK1.out; omega
      have kb : (n : Int) ≤ 1152921504606846976 := by have := HNL.out; omega
      obtain ⟨q, hq⟩ : ∃ q, q = p.length - 1 := ⟨_, rfl⟩
      have hpq : p.length = q + 1 := by omega
      have q1 : (p.length : Int) - 1 = (q : Int) := by omega
      have q2 : (0 : Int) ≤ (q : Int) := Int.natCast_nonneg _
      have q3 : (q : Int) < (p.length : Int) := by omega
      have q4 : (q : Int) ≤ (capp : Int) := by omega
      obtain ⟨bp, op, rfl, _, hel⟩ := HP.out.elem (by omega)
      have HEL := Lib.hid (hel q (by omega))
      have HOL : Hid ((p.getD q []).length = 32) := Lib.hid (Nums.getD HP.out.nums (by omega))
      have hvt := rowN_take HP.out q (by omega)
      have hdl : p.take q = p.dropLast := by rw [List.dropLast_eq_take, hq]
      rw [hdl] at hvt
      have HT := Lib.hid hvt
      have HTL : Hid (p.dropLast.length ≤ 1000000000) := Lib.hid (by rw [List.length_dropLast]; have := HPL.out; omega)
      have hgl : p.getLastD [] = p.getD q [] := by
        rw [hq]
        cases p with
        | nil => exact absurd rfl hp0
        | cons x t => simp [List.getLastD_cons, List.getLastD_eq_getLast?, List.getLast?_eq_getElem?]
      have HLO := Lib.hid (fun (h : i < k) => merU_low b h2 hp0 (by rw [← hk]; exact h))
      have HHI := Lib.hid (fun (h : ¬ i < k) => merU_high b h2 hp0 (by rw [← hk]; exact h))
      rw [hgl, ← hk] at HLO HHI
      generalize p.getD q [] = o at *
      have HIO := Lib.hid (num_size HOL.out)
      have HLO2 : Hid ((o.map bval).length = (ints .u8 (List.replicate 32 0)).length) := Lib.hid (by rw [List.length_map, HOL.out, ints_length, List.length_replicate])
      clear hvt hdl hgl hk hq hel
      have HE : Hid (Ext w wa) := HE0
      go_wp2_with fail
      refine (HH.out wa).mono ?_
      rintro e w' ⟨rfl, rfl⟩
      have HZ := Lib.hid (Blk.made wa (ints .u8 (List.replicate 32 0)) 26)
      have HEA := Lib.hid (Ext.alloc wa (.cells (ints .u8 (List.replicate 32 0)).toArray 26))
      go_upto_region 7 with (first | (refine wpList_load_mid rfl _ _ rfl bp (op + q * 32) rfl _ _ HEL.out Tryd.underlying26 rfl HIO.out ?_) | (refine wpList_store_blk rfl _ _ _ rfl wa.heap.size (o.map bval) rfl rfl _ _ HZ.out HLO2.out HIO.out (bval_one _) ?_; intro w2 hb2 hg2))
      have HX := Lib.hid (ext_grown HEA.out hg2 (Nat.le_refl _))
      have HB0 := Lib.hid (ext_blk HB0.out HX.out)
      have HR := Lib.hid (HR.out.below HX.out)
      have HT := Lib.hid (HT.out.below HX.out)
      have HE := Lib.hid (HE.out.trans HX.out)
      have H11 := Lib.hid hb2
      generalize wa.heap.size = B11 at *
      clear hb2 hg2 HZ HEA HX HH HEL HP
      by_cases hik : i < k
      · have hik' : (i : Int) < (k : Int) := by omega
        have HUS := Lib.hid (HLO.out hik)
        have HC := Lib.hid (HIH.out k HK1.out i b p.dropLast (.slice ab b.length capb) (.slice (some ⟨bp, op, none⟩) q capp) w2 HK0.out (by have := HNL.out; have := HK1.out; omega) hik HBL.out HTL.out HR.out HT.out (HG.out.ext HE.out))
        clear HLO HHI HIH hik
        generalize merU k i b p.dropLast = u at *
        go_wp2_with fail
        refine HC.out.mono ?_
        rintro e w3 ⟨h, hhl, rfl, hhr, hb⟩
        have HHL := Lib.hid hhl
        have HHR := Lib.hid hhr
        have HB0 := Lib.hid (ext_blk HB0.out hb)
        have H11 := Lib.hid (ext_blk H11.out hb)
        have HE := Lib.hid (HE.out.trans hb)
        have HIh := Lib.hid (num_size HHL.out)
        have HLh : Hid ((h.map bval).length = (ints .u8 (List.replicate 32 0)).length) := Lib.hid (by rw [List.length_map, HHL.out, ints_length, List.length_replicate])
        obtain ⟨ok, hok⟩ : ∃ ok, ok = u.isSome := ⟨_, rfl⟩
        rw [← hok]
        have HOK := Lib.hid hok
        have HZ := Lib.hid (Blk.made w3 (ints .u8 (List.replicate 32 0)) 26)
        have HEA := Lib.hid (Ext.alloc w3 (.cells (ints .u8 (List.replicate 32 0)).toArray 26))
        clear hhl hhr hb hok HC HR HT
        go_upto_region 9 with (refine wpList_store_blk rfl _ _ _ rfl w3.heap.size (h.map bval) rfl rfl _ _ HZ.out HLh.out HIh.out (bval_one _) ?_; intro w4 hb4 hg4)
        have HX := Lib.hid (ext_grown HEA.out hg4 (Nat.le_refl _))
        have HB0 := Lib.hid (ext_blk HB0.out HX.out)
        have H11 := Lib.hid (ext_blk H11.out HX.out)
        have HE := Lib.hid (HE.out.trans HX.out)
        have H12 := Lib.hid hb4
        generalize w3.heap.size = B12 at *
        clear hb4 hg4 HZ HEA HX
        have B0 : Ext w4 w4.drew := Ext.drew _
        refine wp_region_held_drew (S := fun w' => Far (A) w4 w') (by kernel_rfl) (fars_ext B0) (fun hHeld => ?_)
        refine wpAnyH_take (i := 1) (v := .slice (some ⟨B12, 0, none⟩) 32 32) rfl (by kernel_rfl) (by kernel_rfl) (by kernel_rfl) (fun _ _ _ h => h) (yi_slice _ _ _ _ (.pointer (some ⟨B12, 0, none⟩)) (.slice (some ⟨B12, 0, none⟩) 32 32) none none (by rfl) rfl rfl rfl rfl (fun w => cut_whole Tryd.underlying26 Tryd.sizeOf5 (by omega) _ w)) hHeld ?_
        simp only [Act.put, List.getElem_toArray, List.getElem_cons_zero, List.getElem_cons_succ, List.setIfInBounds_toArray, List.set_cons_zero, List.set_cons_succ]
        refine wpAnyH_take (i := 3) (v := .slice (some ⟨B11, 0, none⟩) 32 32) rfl (by kernel_rfl) (by kernel_rfl) (by kernel_rfl) (fun _ _ _ h => h) (yi_slice _ _ _ _ (.pointer (some ⟨B11, 0, none⟩)) (.slice (some ⟨B11, 0, none⟩) 32 32) none none (by rfl) rfl rfl rfl rfl (fun w => cut_whole Tryd.underlying26 Tryd.sizeOf5 (by omega) _ w)) hHeld ?_
        simp only [Act.put, List.getElem_toArray, List.getElem_cons_zero, List.getElem_cons_succ, List.setIfInBounds_toArray, List.set_cons_zero, List.set_cons_succ]
        refine wpAnyH_take (i := 6) (v := .bool ok) rfl (by kernel_rfl) (by kernel_rfl) (by kernel_rfl) (fun _ _ _ h => h) (yi_move _ (.bool ok) (by rfl) rfl rfl) hHeld ?_
        simp only [Act.put, List.getElem_toArray, List.getElem_cons_zero, List.getElem_cons_succ, List.setIfInBounds_toArray, List.set_cons_zero, List.set_cons_succ]
        refine wpAnyH_ready (rs := [0]) (by kernel_rfl) (by simp) (AllReadyH.cons rfl (fun K hK => ?_) AllReadyH.nil)
        refine step_wp (by rfl) ?_
        refine wp_buildSlice_d (some 52) _ _ _ _ rfl rfl #[.int .u8 1] i0 (.int .u8 0) Tryd.underlying34 HI0.out HZ0.out (by rw [HZ1.out]; decide) (by rw [HZ1.out]; decide) (by rw [HZ1.out]; kernel_rfl) ?_
        obtain ⟨m1, hm1⟩ : ∃ wNew, wNew = World.alloc w4.drew (.cells #[.int .u8 1] 5) := ⟨_, rfl⟩
        rw [← hm1]
        have b1 : Ext w4.drew m1 := by rw [hm1]; exact Ext.alloc _ _
        obtain ⟨g1, hg1⟩ : ∃ gNew, gNew = (w4.drew).heap.size := ⟨_, rfl⟩
        rw [← hg1]
        have r1 : Row1 m1 (.slice (some ⟨g1, 0, none⟩) 1 1) (([1] : List UInt8).map bval) := by rw [hm1, hg1]; exact Row1.made _ _ _ _ _ _ rfl rfl rfl (by unfold maxLen; omega)
        have o1 : World.ownsRow m1 (w4).heap.size 5 1 (.slice (some ⟨g1, 0, none⟩) 1 1) 1 (([1] : List UInt8).map bval) := by rw [hm1, hg1]; exact own_made _ _ _ _ _ _ rfl rfl (by unfold maxLen; omega) B0.size
        clear hm1 hg1
        have N1 : Ext w4 m1 := B0.trans b1
        refine hK.out _ _ (fars_ext N1) (fun hHeld => ?_)
        clear hK K
        try simp only [Act.put, List.getElem_toArray, List.getElem_cons_zero, List.getElem_cons_succ, List.setIfInBounds_toArray, List.set_cons_zero, List.set_cons_succ]
        refine wpAnyH_ready (rs := [2]) (by kernel_rfl) (by simp) (AllReadyH.cons rfl (fun K hK => ?_) AllReadyH.nil)
        refine step_wp (by rfl) ?_
        refine wp_append_row _ _ 34 rfl (w4).heap.size 5 i0 (.int .u8 0) 1 Tryd.underlying34 HI0.out HZ0.out HZ1.out HZ2.out rfl (.slice (some ⟨g1, 0, none⟩) 1 1) 1 _ rfl o1 rfl ((blk_row (n := 32) H12.out (by rw [List.length_map]; exact HHL.out) (by unfold maxLen; omega)).below N1) (bval_one _) (by simp only [List.length_map, List.length_cons, List.length_nil, HHL.out, HOL.out]; unfold maxLen; omega) (by simp only [List.length_map, List.length_cons, List.length_nil, HHL.out, HOL.out]; omega) N1.size ?_
        intro v2 m2 ho2 hg2
        have N2 : Ext w4 m2 := ext_own N1 o1 (Nat.le_refl _) hg2
        have r2 : Row1 m2 v2 ((([1] ++ h)).map bval) := by have h := Row1.of_own ho2; simpa using h
        have o2 : World.ownsRow m2 (w4).heap.size 5 1 v2 ((1 :: h).length) ((1 :: h).map bval) := own_eq ho2 (by rw [List.length_map, List.length_cons]; omega) (by rfl)
        have r2 : Row1 m2 v2 ((1 :: h).map bval) := Row1.of_own o2
        refine hK.out _ _ (fars_ext N2) (fun hHeld => ?_)
        clear hK K
        try simp only [Act.put, List.getElem_toArray, List.getElem_cons_zero, List.getElem_cons_succ, List.setIfInBounds_toArray, List.set_cons_zero, List.set_cons_succ]
        refine wpAnyH_ready (rs := [4]) (by kernel_rfl) (by simp) (AllReadyH.cons rfl (fun K hK => ?_) AllReadyH.nil)
        refine step_wp (by rfl) ?_
        refine wp_append_row _ _ 34 rfl (w4).heap.size 5 i0 (.int .u8 0) 1 Tryd.underlying34 HI0.out HZ0.out HZ1.out HZ2.out rfl (v2) (1 :: h).length _ rfl o2 rfl ((blk_row (n := 32) H11.out (by rw [List.length_map]; exact HOL.out) (by unfold maxLen; omega)).below N2) (bval_one _) (by simp only [List.length_map, List.length_cons, List.length_nil, HHL.out, HOL.out]; unfold maxLen; omega) (by simp only [List.length_map, List.length_cons, List.length_nil, HHL.out, HOL.out]; omega) N2.size ?_
        intro v3 m3 ho3 hg3
        have N3 : Ext w4 m3 := ext_own N2 o2 (Nat.le_refl _) hg3
        have r3 : Row1 m3 v3 (((1 :: h ++ o)).map bval) := by have h := Row1.of_own ho3; simpa using h
        have o3 : World.ownsRow m3 (w4).heap.size 5 1 v3 ((1 :: (h ++ o)).length) ((1 :: (h ++ o)).map bval) := own_eq ho3 (by rw [List.length_map, List.length_cons, List.length_cons, List.length_append]; omega) (by simp)
        have r3 : Row1 m3 v3 ((1 :: (h ++ o)).map bval) := Row1.of_own o3
        refine hK.out _ _ (fars_ext N3) (fun hHeld => ?_)
        clear hK K
        try simp only [Act.put, List.getElem_toArray, List.getElem_cons_zero, List.getElem_cons_succ, List.setIfInBounds_toArray, List.set_cons_zero, List.set_cons_succ]
        refine wpAnyH_ready (rs := [5]) (by kernel_rfl) (by simp) (AllReadyH.cons rfl (fun K hK => ?_) AllReadyH.nil)
        go_simp
        refine (rSha_any _ (1 :: (h ++ o)) m3 r3 (by rw [List.length_cons, List.length_append]; have := HHL.out; have := HOL.out; omega) (HG.out.ext (HE.out.trans N3))).mono ?_
        rintro e m4 ⟨rfl, b4⟩
        have r3 := r3.below b4
        have o3 := own_below o3 b4
        have N4 : Ext w4 m4 := N3.trans b4
        refine hK.out _ _ (fars_ext N4) (fun hHeld => ?_)
        clear hK K
        try simp only [Act.put, List.getElem_toArray, List.getElem_cons_zero, List.getElem_cons_succ, List.setIfInBounds_toArray, List.set_cons_zero, List.set_cons_succ]
        refine wpAnyH_ready (rs := [7]) (by kernel_rfl) (by simp) (AllReadyH.cons rfl (fun K hK => ?_) AllReadyH.nil)
        refine step_wp (by rfl) ?_
        refine wp_store_blk _ _ _ rfl (A) ((sha256 (1 :: (h ++ o))).map bval) rfl rfl _ _ (ext_blk HB0.out N4) (by rw [List.length_map, sha256_length, ints_length]; rfl) (num_size ((sha256_length _))) (bval_one _) ?_
        intro m5 hb5 hg5
        refine hK.out _ _ (fars_put N4 hg5) (fun hHeld => ?_)
        clear hK K
        try simp only [Act.put, List.getElem_toArray, List.getElem_cons_zero, List.getElem_cons_succ, List.setIfInBounds_toArray, List.set_cons_zero, List.set_cons_succ]
        refine wpAnyH_ready (rs := [8]) (by kernel_rfl) (by simp) (AllReadyH.cons rfl (fun K hK => ?_) AllReadyH.nil)
        go_simp
        refine hK.out _ _ (fars_put N4 hg5) (fun hHeld => ?_)
        clear hK K
        try simp only [Act.put, List.getElem_toArray, List.getElem_cons_zero, List.getElem_cons_succ, List.setIfInBounds_toArray, List.set_cons_zero, List.set_cons_succ]
        refine wpAnyH_done (by kernel_rfl) ?_ _
        have hfin := hb5
        have hNN := ext_grown (HE.out.trans N4) hg5 HLA.out
        generalize m5 = w11 at hfin hNN ⊢
        have HIo : Hid ((Tryd.prog.info? 26).map (·.size) = some ((sha256 (1 :: (h ++ o))).map bval).length) := Lib.hid (num_size (sha256_length _))
        go_wp2_with fail
        refine bodyPost_ret (result_row_tmp (p := 8) (u := 9) (by rfl) _ A _ _ _ (by rfl) hfin Tryd.underlying26 rfl HIo.out) rfl ⟨_, sha256_length _, by rw [HUS.out, Option.isSome_map, ← HOK.out]; rfl, fun r hr => ?_, hNN⟩
        rw [HUS.out] at hr
        obtain ⟨h2, hh, rfl⟩ := Option.map_eq_some_iff.1 hr
        rw [HHR.out h2 hh]
      · have hik' : ¬ (i : Int) < (k : Int) := by omega
        have HUS := Lib.hid (HHI.out hik)
        have s1 : (n : Int) - (k : Int) = ((n - k : Nat) : Int) := by have := HK1.out; omega
        have s2 : (i : Int) - (k : Int) = ((i - k : Nat) : Int) := by omega
        have s3 : (0 : Int) ≤ ((n - k : Nat) : Int) := Int.natCast_nonneg _
        have s4 : (0 : Int) ≤ ((i - k : Nat) : Int) := Int.natCast_nonneg _
        have s5 : ((i - k : Nat) : Int) ≤ 1152921504606846976 := by have := HIN.out; omega
        have s6 : ((n - k : Nat) : Int) ≤ 1152921504606846976 := by omega
        have HC := Lib.hid (HIH.out (n - k) (by have := HK0.out; have := HN0.out; omega) (i - k) b p.dropLast (.slice ab b.length capb) (.slice (some ⟨bp, op, none⟩) q capp) w2 (by have := HK1.out; omega) (by have := HNL.out; omega) (by have := HIN.out; omega) HBL.out HTL.out HR.out HT.out (HG.out.ext HE.out))
        clear HLO HHI HIH hik
        generalize merU (n - k) (i - k) b p.dropLast = u at *
        generalize n - k = nk at *
        generalize i - k = ik at *
        go_wp2_with fail
        refine HC.out.mono ?_
        rintro e w3 ⟨h, hhl, rfl, hhr, hb⟩
        have HHL := Lib.hid hhl
        have HHR := Lib.hid hhr
        have HB0 := Lib.hid (ext_blk HB0.out hb)
        have H11 := Lib.hid (ext_blk H11.out hb)
        have HE := Lib.hid (HE.out.trans hb)
        have HIh := Lib.hid (num_size HHL.out)
        have HLh : Hid ((h.map bval).length = (ints .u8 (List.replicate 32 0)).length) := Lib.hid (by rw [List.length_map, HHL.out, ints_length, List.length_replicate])
        obtain ⟨ok, hok⟩ : ∃ ok, ok = u.isSome := ⟨_, rfl⟩
        rw [← hok]
        have HOK := Lib.hid hok
        have HZ := Lib.hid (Blk.made w3 (ints .u8 (List.replicate 32 0)) 26)
        have HEA := Lib.hid (Ext.alloc w3 (.cells (ints .u8 (List.replicate 32 0)).toArray 26))
        clear hhl hhr hb hok HC HR HT
        go_upto_region 11 with (refine wpList_store_blk rfl _ _ _ rfl w3.heap.size (h.map bval) rfl rfl _ _ HZ.out HLh.out HIh.out (bval_one _) ?_; intro w4 hb4 hg4)
        have HX := Lib.hid (ext_grown HEA.out hg4 (Nat.le_refl _))
        have HB0 := Lib.hid (ext_blk HB0.out HX.out)
        have H11 := Lib.hid (ext_blk H11.out HX.out)
        have HE := Lib.hid (HE.out.trans HX.out)
        have H12 := Lib.hid hb4
        generalize w3.heap.size = B12 at *
        clear hb4 hg4 HZ HEA HX
        have B0 : Ext w4 w4.drew := Ext.drew _
        refine wp_region_held_drew (S := fun w' => Far (A) w4 w') (by kernel_rfl) (fars_ext B0) (fun hHeld => ?_)
        refine wpAnyH_take (i := 1) (v := .slice (some ⟨B11, 0, none⟩) 32 32) rfl (by kernel_rfl) (by kernel_rfl) (by kernel_rfl) (fun _ _ _ h => h) (yi_slice _ _ _ _ (.pointer (some ⟨B11, 0, none⟩)) (.slice (some ⟨B11, 0, none⟩) 32 32) none none (by rfl) rfl rfl rfl rfl (fun w => cut_whole Tryd.underlying26 Tryd.sizeOf5 (by omega) _ w)) hHeld ?_
        simp only [Act.put, List.getElem_toArray, List.getElem_cons_zero, List.getElem_cons_succ, List.setIfInBounds_toArray, List.set_cons_zero, List.set_cons_succ]
        refine wpAnyH_take (i := 3) (v := .slice (some ⟨B12, 0, none⟩) 32 32) rfl (by kernel_rfl) (by kernel_rfl) (by kernel_rfl) (fun _ _ _ h => h) (yi_slice _ _ _ _ (.pointer (some ⟨B12, 0, none⟩)) (.slice (some ⟨B12, 0, none⟩) 32 32) none none (by rfl) rfl rfl rfl rfl (fun w => cut_whole Tryd.underlying26 Tryd.sizeOf5 (by omega) _ w)) hHeld ?_
        simp only [Act.put, List.getElem_toArray, List.getElem_cons_zero, List.getElem_cons_succ, List.setIfInBounds_toArray, List.set_cons_zero, List.set_cons_succ]
        refine wpAnyH_take (i := 6) (v := .bool ok) rfl (by kernel_rfl) (by kernel_rfl) (by kernel_rfl) (fun _ _ _ h => h) (yi_move _ (.bool ok) (by rfl) rfl rfl) hHeld ?_
        simp only [Act.put, List.getElem_toArray, List.getElem_cons_zero, List.getElem_cons_succ, List.setIfInBounds_toArray, List.set_cons_zero, List.set_cons_succ]
        refine wpAnyH_ready (rs := [0]) (by kernel_rfl) (by simp) (AllReadyH.cons rfl (fun K hK => ?_) AllReadyH.nil)
        refine step_wp (by rfl) ?_
        refine wp_buildSlice_d (some 75) _ _ _ _ rfl rfl #[.int .u8 1] i0 (.int .u8 0) Tryd.underlying34 HI0.out HZ0.out (by rw [HZ1.out]; decide) (by rw [HZ1.out]; decide) (by rw [HZ1.out]; kernel_rfl) ?_
        obtain ⟨m1, hm1⟩ : ∃ wNew, wNew = World.alloc w4.drew (.cells #[.int .u8 1] 5) := ⟨_, rfl⟩
        rw [← hm1]
        have b1 : Ext w4.drew m1 := by rw [hm1]; exact Ext.alloc _ _
        obtain ⟨g1, hg1⟩ : ∃ gNew, gNew = (w4.drew).heap.size := ⟨_, rfl⟩
        rw [← hg1]
        have r1 : Row1 m1 (.slice (some ⟨g1, 0, none⟩) 1 1) (([1] : List UInt8).map bval) := by rw [hm1, hg1]; exact Row1.made _ _ _ _ _ _ rfl rfl rfl (by unfold maxLen; omega)
        have o1 : World.ownsRow m1 (w4).heap.size 5 1 (.slice (some ⟨g1, 0, none⟩) 1 1) 1 (([1] : List UInt8).map bval) := by rw [hm1, hg1]; exact own_made _ _ _ _ _ _ rfl rfl (by unfold maxLen; omega) B0.size
        clear hm1 hg1
        have N1 : Ext w4 m1 := B0.trans b1
        refine hK.out _ _ (fars_ext N1) (fun hHeld => ?_)
        clear hK K
        try simp only [Act.put, List.getElem_toArray, List.getElem_cons_zero, List.getElem_cons_succ, List.setIfInBounds_toArray, List.set_cons_zero, List.set_cons_succ]
        refine wpAnyH_ready (rs := [2]) (by kernel_rfl) (by simp) (AllReadyH.cons rfl (fun K hK => ?_) AllReadyH.nil)
        refine step_wp (by rfl) ?_
        refine wp_append_row _ _ 34 rfl (w4).heap.size 5 i0 (.int .u8 0) 1 Tryd.underlying34 HI0.out HZ0.out HZ1.out HZ2.out rfl (.slice (some ⟨g1, 0, none⟩) 1 1) 1 _ rfl o1 rfl ((blk_row (n := 32) H11.out (by rw [List.length_map]; exact HOL.out) (by unfold maxLen; omega)).below N1) (bval_one _) (by simp only [List.length_map, List.length_cons, List.length_nil, HOL.out, HHL.out]; unfold maxLen; omega) (by simp only [List.length_map, List.length_cons, List.length_nil, HOL.out, HHL.out]; omega) N1.size ?_
        intro v2 m2 ho2 hg2
        have N2 : Ext w4 m2 := ext_own N1 o1 (Nat.le_refl _) hg2
        have r2 : Row1 m2 v2 ((([1] ++ o)).map bval) := by have h := Row1.of_own ho2; simpa using h
        have o2 : World.ownsRow m2 (w4).heap.size 5 1 v2 ((1 :: o).length) ((1 :: o).map bval) := own_eq ho2 (by rw [List.length_map, List.length_cons]; omega) (by rfl)
        have r2 : Row1 m2 v2 ((1 :: o).map bval) := Row1.of_own o2
        refine hK.out _ _ (fars_ext N2) (fun hHeld => ?_)
        clear hK K
        try simp only [Act.put, List.getElem_toArray, List.getElem_cons_zero, List.getElem_cons_succ, List.setIfInBounds_toArray, List.set_cons_zero, List.set_cons_succ]
        refine wpAnyH_ready (rs := [4]) (by kernel_rfl) (by simp) (AllReadyH.cons rfl (fun K hK => ?_) AllReadyH.nil)
        refine step_wp (by rfl) ?_
        refine wp_append_row _ _ 34 rfl (w4).heap.size 5 i0 (.int .u8 0) 1 Tryd.underlying34 HI0.out HZ0.out HZ1.out HZ2.out rfl (v2) (1 :: o).length _ rfl o2 rfl ((blk_row (n := 32) H12.out (by rw [List.length_map]; exact HHL.out) (by unfold maxLen; omega)).below N2) (bval_one _) (by simp only [List.length_map, List.length_cons, List.length_nil, HOL.out, HHL.out]; unfold maxLen; omega) (by simp only [List.length_map, List.length_cons, List.length_nil, HOL.out, HHL.out]; omega) N2.size ?_
        intro v3 m3 ho3 hg3
        have N3 : Ext w4 m3 := ext_own N2 o2 (Nat.le_refl _) hg3
        have r3 : Row1 m3 v3 (((1 :: o ++ h)).map bval) := by have h := Row1.of_own ho3; simpa using h
        have o3 : World.ownsRow m3 (w4).heap.size 5 1 v3 ((1 :: (o ++ h)).length) ((1 :: (o ++ h)).map bval) := own_eq ho3 (by rw [List.length_map, List.length_cons, List.length_cons, List.length_append]; omega) (by simp)
        have r3 : Row1 m3 v3 ((1 :: (o ++ h)).map bval) := Row1.of_own o3
        refine hK.out _ _ (fars_ext N3) (fun hHeld => ?_)
        clear hK K
        try simp only [Act.put, List.getElem_toArray, List.getElem_cons_zero, List.getElem_cons_succ, List.setIfInBounds_toArray, List.set_cons_zero, List.set_cons_succ]
        refine wpAnyH_ready (rs := [5]) (by kernel_rfl) (by simp) (AllReadyH.cons rfl (fun K hK => ?_) AllReadyH.nil)
        go_simp
        refine (rSha_any _ (1 :: (o ++ h)) m3 r3 (by rw [List.length_cons, List.length_append]; have := HOL.out; have := HHL.out; omega) (HG.out.ext (HE.out.trans N3))).mono ?_
        rintro e m4 ⟨rfl, b4⟩
        have r3 := r3.below b4
        have o3 := own_below o3 b4
        have N4 : Ext w4 m4 := N3.trans b4
        refine hK.out _ _ (fars_ext N4) (fun hHeld => ?_)
        clear hK K
        try simp only [Act.put, List.getElem_toArray, List.getElem_cons_zero, List.getElem_cons_succ, List.setIfInBounds_toArray, List.set_cons_zero, List.set_cons_succ]
        refine wpAnyH_ready (rs := [7]) (by kernel_rfl) (by simp) (AllReadyH.cons rfl (fun K hK => ?_) AllReadyH.nil)
        refine step_wp (by rfl) ?_
        refine wp_store_blk _ _ _ rfl (A) ((sha256 (1 :: (o ++ h))).map bval) rfl rfl _ _ (ext_blk HB0.out N4) (by rw [List.length_map, sha256_length, ints_length]; rfl) (num_size ((sha256_length _))) (bval_one _) ?_
        intro m5 hb5 hg5
        refine hK.out _ _ (fars_put N4 hg5) (fun hHeld => ?_)
        clear hK K
        try simp only [Act.put, List.getElem_toArray, List.getElem_cons_zero, List.getElem_cons_succ, List.setIfInBounds_toArray, List.set_cons_zero, List.set_cons_succ]
        refine wpAnyH_ready (rs := [8]) (by kernel_rfl) (by simp) (AllReadyH.cons rfl (fun K hK => ?_) AllReadyH.nil)
        go_simp
        refine hK.out _ _ (fars_put N4 hg5) (fun hHeld => ?_)
        clear hK K
        try simp only [Act.put, List.getElem_toArray, List.getElem_cons_zero, List.getElem_cons_succ, List.setIfInBounds_toArray, List.set_cons_zero, List.set_cons_succ]
        refine wpAnyH_done (by kernel_rfl) ?_ _
        have hfin := hb5
        have hNN := ext_grown (HE.out.trans N4) hg5 HLA.out
        generalize m5 = w11 at hfin hNN ⊢
        have HIo : Hid ((Tryd.prog.info? 26).map (·.size) = some ((sha256 (1 :: (o ++ h))).map bval).length) := Lib.hid (num_size (sha256_length _))
        go_wp2_with fail
        refine bodyPost_ret (result_row_tmp (p := 8) (u := 9) (by rfl) _ A _ _ _ (by rfl) hfin Tryd.underlying26 rfl HIo.out) rfl ⟨_, sha256_length _, by rw [HUS.out, Option.isSome_map, ← HOK.out]; rfl, fun r hr => ?_, hNN⟩
        rw [HUS.out] at hr
        obtain ⟨h2, hh, rfl⟩ := Option.map_eq_some_iff.1 hr
        rw [HHR.out h2 hh]
theorem rUp_any (n i : Nat) (b : List UInt8) (p : List (List UInt8)) (bv pv : Value) (w : World) (h0 : 0 < n) (hn : n ≤ 1152921504606846976) (hi : i < n) (hb : b.length ≤ 1000000000) (hp : p.length ≤ 1000000000) (hr : Row1 w bv (b.map bval)) (hq : RowN w pv p) (hG : GlobK w) :
    Calls Tryd.prog 25 #[.int .i64 (n : Int), .int .i64 (i : Int), bv, pv] w fun e w' => ∃ h : List UInt8, h.length = 32 ∧ e = .returned (.tuple #[.agg (h.map bval).toArray, .bool (merU n i b p).isSome]) ∧ (∀ r, merU n i b p = some r → h = r) ∧ Below w.heap.size w w' :=
  Nat.strongRecOn (motive := UpSaid) n rUp_step i b p bv pv w h0 hn hi hb hp hr hq hG

end Go.Proofs.YtcadfccijeodbaaDoor
