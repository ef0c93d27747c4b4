/- The walks of the document's own hash trees: half, Root, Path, up, Check, SameNums. Each theorem names its own conditions. -/
import Derived.Test.YtcadfccijeodbaaDoorMerSpec
import Derived.Test.YtcadfccijeodbaaDoorNumsMore
import Derived.Test.YtcadfccijeodbaaDoorRefSha
import Derived.Test.YtcadfccijeodbaaDoorFarKit
import Derived.Test.YtcadfccijeodbaaDoorHeldMore
import Derived.Test.YtcadfccijeodbaaDoorDetTail
import Derived.Test.YtcadfccijeodbaaDoorOwnKit
namespace Go.Proofs.YtcadfccijeodbaaDoor
open Go.RowKit
set_option linter.unusedVariables false
set_option linter.unusedSimpArgs false

set_option maxRecDepth 100000 in
set_option maxHeartbeats 4000000 in
theorem rhalf_any (n : Nat) (w : World) (h2 : 2 ≤ n) (hn : n ≤ 1152921504606846976) :
    Calls Tryd.prog 23 #[.int .i64 (n : Int)] w fun e w' => e = .returned (.int .i64 ((merK n : Nat) : Int)) ∧ w = w' := by
  have n0 : (0 : Int) ≤ (n : Int) := Int.natCast_nonneg _
  go_enter Tryd.func23, Tryd.ntmps23
  go_wp2_with fail
  go_loop [3] (fun iv => ∃ (j k : Nat), k = 2 ^ j ∧ k < n ∧ iv = .int .i64 (k : Int)) (fun iv => n - (intOf iv).toNat)
  case atStart => exact ⟨0, 1, rfl, by omega, rfl⟩
  case round =>
    obtain ⟨j, k, hj, hk, rfl⟩ := hrel
    have HJ := Lib.hid hj
    have k0 : (0 : Int) ≤ (k : Int) := Int.natCast_nonneg _
    have k1 : 2 * (k : Int) ≤ 2305843009213693952 := by omega
    have HP : Hid (0 < k) := Lib.hid (by rw [hj]; exact Nat.pow_pos (by omega))
    clear hj
    by_cases hlt : 2 * k < n
    · have hlt2 : 2 * (k : Int) < (n : Int) := by omega
      go_wp2_with fail
      go_round
      case rel => exact ⟨j + 1, 2 * k, by rw [HJ.out, Nat.pow_succ, Nat.mul_comm], hlt, by go_num⟩
      case measure =>
        have := HP.out
        simp [intOf]
        omega
    · have hlt2 : ¬ 2 * (k : Int) < (n : Int) := by omega
      have HK : Hid (merK n = k) := Lib.hid (by rw [HJ.out]; exact merK_of h2 (by have := HJ.out; omega) (by have := HJ.out; omega))
      go_wp2_with fail
      go_ret
      exact ⟨by rw [HK.out]; rfl, rfl⟩

section
variable {P : Program} {w : World}
theorem rowB_upto {t e : TypeId} (ht : P.underlying t = some (.slice e)) (hs : ∀ w, (sizeOf e).run P w = .ok 1 w) {v : Value} {ls : List (List UInt8)} (h : RowB w v ls) (k : Nat) (hk : k ≤ ls.length) :
    ∃ v', RowB w v' (ls.take k) ∧ ∀ w', (Instr.sliceAt t v none (some (.int .i64 (k : Int))) none).run P w' = .ok v' w' := by
  obtain ⟨vals, hr, hl, hx⟩ := h
  obtain ⟨v', h1, h2⟩ := row_upto ht hs hr k (by omega)
  refine ⟨v', ⟨vals.take k, h1, by rw [List.length_take, List.length_take, hl], fun i x l hx1 hl1 => ?_⟩, h2⟩
  rw [List.getElem?_take] at hx1 hl1
  split at hx1
  · rename_i hik
    rw [if_pos hik] at hl1
    exact hx i x l hx1 hl1
  · cases hx1
theorem rowB_cut {t e : TypeId} (ht : P.underlying t = some (.slice e)) (hs : ∀ w, (sizeOf e).run P w = .ok 1 w) {v : Value} {ls : List (List UInt8)} (h : RowB w v ls) (k : Nat) (hk : k ≤ ls.length) :
    ∃ v', RowB w v' (ls.drop k) ∧ ∀ w', (Instr.sliceAt t v (some (.int .i64 (k : Int))) none none).run P w' = .ok v' w' := by
  obtain ⟨vals, hr, hl, hx⟩ := h
  obtain ⟨v', h1, h2⟩ := row_cut ht hs hr k (by omega)
  refine ⟨v', ⟨vals.drop k, h1, by rw [List.length_drop, List.length_drop, hl], fun i x l hx1 hl1 => ?_⟩, h2⟩
  rw [List.getElem?_drop] at hx1 hl1
  exact hx _ x l hx1 hl1
theorem mer_form {v : Value} {ls : List (List UInt8)} (h : RowB w v ls) : ∃ a cap, v = .slice a ls.length cap ∧ ls.length ≤ cap ∧ cap ≤ maxLen := by
  obtain ⟨vals, ⟨a, cap, hv, h1, h2, _⟩, hl, _⟩ := h
  rw [hl] at hv h1
  exact ⟨a, cap, hv, h1, h2⟩
/-- An element's cell, and that it reads as its bytes. -/
theorem rowB_elem {a : Option Addr} {n cap : Nat} {ls : List (List UInt8)} (h : RowB w (.slice a n cap) ls) (hne : 0 < ls.length) : ∃ b off, a = some ⟨b, off, none⟩ ∧ ∀ i, i < ls.length → ∃ a2 c2, w.cell? ⟨b, off + i, none⟩ = some (.slice a2 (ls.getD i []).length c2) ∧ Row1 w (.slice a2 (ls.getD i []).length c2) ((ls.getD i []).map bval) := by
  obtain ⟨vals, ⟨a', cap', hv, h1, h2, h3, h4⟩, hl, hx⟩ := h
  injection hv with e1 e2 e3
  subst e1
  obtain ⟨b, off, ha, hb, hc⟩ := h4 (by rintro rfl; simp at hl; omega)
  refine ⟨b, off, ha, fun i hi => ?_⟩
  have hv1 : vals[i]? = some (vals[i]'(by omega)) := List.getElem?_eq_getElem (by omega)
  have hl1 : ls[i]? = some (ls.getD i []) := by rw [List.getD_eq_getElem?_getD, List.getElem?_eq_getElem hi]; rfl
  have hr := hx i _ _ hv1 hl1
  obtain ⟨a2, c2, hx2, _⟩ := id hr
  rw [List.length_map] at hx2
  rw [hx2] at hr hv1
  exact ⟨a2, c2, by rw [hc i (by omega), hv1], hr⟩
end

def RootSaid (n : Nat) : Prop := ∀ (ls : List (List UInt8)) (v : Value) (w : World), ls.length = n → (∀ l ∈ ls, l.length ≤ 1000000000) → ls.length ≤ 1152921504606846976 → RowB w v ls → GlobK w →
    Calls Tryd.prog 12 #[v] w fun e w' => e = .returned (.agg ((merR ls).map bval).toArray) ∧ Below w.heap.size w w'

set_option maxRecDepth 100000 in
set_option maxHeartbeats 8000000 in
theorem rRoot_step (n : Nat) (ih : ∀ k, k < n → RootSaid k) : RootSaid n := by
  intro ls v w hn hbd hbl hv hG
  have HBL := Lib.hid hbl
  obtain ⟨i0, hi, hz0, hz1, hz2⟩ := info_parts Tryd.info5
  have HI0 := Lib.hid hi
  have HZ0 := Lib.hid hz0
  have HZ1 := Lib.hid hz1
  have HZ2 := Lib.hid hz2
  have HIH := Lib.hid ih
  have HG := Lib.hid hG
  have HBD := Lib.hid hbd
  have HN := Lib.hid hn
  obtain ⟨a, cap, rfl, r1, r2⟩ := mer_form hv
  unfold maxLen at r2
  have HV0 := Lib.hid hv
  have HB0 := Lib.hid (Blk.made w (ints .u8 (List.replicate 32 0)) 26)
  have HE0 := Lib.hid (Ext.alloc w (.cells (ints .u8 (List.replicate 32 0)).toArray 26))
  have HRL : Hid ((merR ls).length = 32) := Lib.hid (merR_length ls)
  have HIR := Lib.hid (num_size HRL.out)
  have HLR : Hid (((merR ls).map bval).length = (ints .u8 (List.replicate 32 0)).length) := Lib.hid (by rw [List.length_map, HRL.out, ints_length, List.length_replicate])
  have l0 : (0 : Int) ≤ (ls.length : Int) := Int.natCast_nonneg _
  clear ih hG hbd hbl hn hv hi hz0 hz1 hz2
  go_enter Tryd.func12, Tryd.ntmps12
  go_upto_region 1 with (fail)
  change Code.wp _ _ _ _ (w.alloc (.cells (ints .u8 (List.replicate 32 0)).toArray 26))
  generalize w.alloc (.cells (ints .u8 (List.replicate 32 0)).toArray 26) = wa at *
  obtain ⟨A, hA⟩ : ∃ A, A = w.heap.size := ⟨_, rfl⟩
  have HLA : Hid (w.heap.size ≤ A) := Lib.hid (by omega)
  rw [← hA] at HB0 ⊢
  have HV := Lib.hid (HV0.out.below HE0.out)
  clear hA HV0
  by_cases h0 : ls.length = 0
  · have h0' : (ls.length : Int) = 0 := by omega
    have HQ : Hid (sha256 [] = merR ls) := Lib.hid (merR_nil h0).symm
    go_wp2_with fail
    refine (rSha_any (.slice none 0 0) [] wa (Row1.nil wa) (by decide) (HG.out.ext HE0.out)).mono ?_
    rintro e w1 ⟨rfl, hb⟩
    rw [HQ.out]
    have HB1 := Lib.hid (ext_blk HB0.out hb)
    have HE1 := Lib.hid (HE0.out.trans hb)
    clear hb
    go_wp2_with (refine wpList_store_blk rfl _ _ _ rfl A ((merR ls).map bval) rfl rfl _ _ HB1.out HLR.out HIR.out (bval_one _) ?_; intro w10 hb10 hg10)
    refine bodyPost_ret (result_blk rfl _ A _ _ _ _ rfl hb10 Tryd.underlying26 HIR.out) rfl ⟨rfl, ext_grown HE1.out hg10 HLA.out⟩
  · have h0' : ¬ (ls.length : Int) = 0 := by omega
    by_cases h1 : ls.length = 1
    · have h1' : (ls.length : Int) = 1 := by omega
      have h10 : (0 : Int) < (ls.length : Int) := by omega
      obtain ⟨b, off, rfl, hel⟩ := rowB_elem HV.out (by omega)
      obtain ⟨a2, c2, hc, hr⟩ := hel 0 (by omega)
      have HQ : Hid (sha256 (0 :: ls.getD 0 []) = merR ls) := Lib.hid (by
        rw [merR_one' h1]
        cases ls with
        | nil => simp at h1
        | cons x t => rfl)
      have HXL : Hid ((ls.getD 0 []).length ≤ 1000000000) := Lib.hid (HBD.out _ (by
        rw [List.getD_eq_getElem?_getD, List.getElem?_eq_getElem (by omega)]
        exact List.getElem_mem _))
      generalize ls.getD 0 [] = x at *
      rw [Nat.add_zero] at hc
      have HEA := Lib.hid (Ext.alloc wa (.cells #[.int .u8 0] 5))
      have hcell : (wa.alloc (.cells #[.int .u8 0] 5)).cell? ⟨b, off, none⟩ = some (.slice a2 x.length c2) := (HEA.out.cell (World.block_lt_of_cell? wa _ hc)).trans hc
      have HR := Lib.hid (hr.below HEA.out)
      have HO := Lib.hid (own_made wa #[.int .u8 0] wa.heap.size 5 1 (([0] : List UInt8).map bval) rfl rfl (by unfold maxLen; omega) (Nat.le_refl _))
      have HSZ := Lib.hid (HEA.out.size)
      clear hc hr hel
      go_wp2_with (at_builtin; refine wpList_append_row rfl _ _ 34 rfl wa.heap.size 5 i0 (.int .u8 0) 1 Tryd.underlying34 HI0.out HZ0.out HZ1.out HZ2.out rfl _ _ _ rfl HO.out rfl HR.out (bval_one _) (by have := HXL.out; rw [List.length_map]; unfold maxLen; omega) (by have := HXL.out; rw [List.length_map]; omega) HSZ.out ?_; intro v4 w4 hown4 hgrow4)
      have HX4 := Lib.hid (ext_own HEA.out HO.out (Nat.le_refl _) hgrow4)
      have HR4 : Hid (Row1 w4 v4 ((0 :: x).map bval)) := Lib.hid (by have h := Row1.of_own hown4; simpa using h)
      clear hown4 hgrow4 HO HR hcell
      refine (rSha_any v4 (0 :: x) w4 HR4.out (by have := HXL.out; rw [List.length_cons]; omega) (HG.out.ext (HE0.out.trans HX4.out))).mono ?_
      rintro e w1 ⟨rfl, hb⟩
      rw [HQ.out]
      have HB1 := Lib.hid (ext_blk HB0.out (HX4.out.trans hb))
      have HE1 := Lib.hid (HE0.out.trans (HX4.out.trans hb))
      clear hb
      go_wp2_with (refine wpList_store_blk rfl _ _ _ rfl A ((merR ls).map bval) rfl rfl _ _ HB1.out HLR.out HIR.out (bval_one _) ?_; intro w10 hb10 hg10)
      refine bodyPost_ret (result_blk rfl _ A _ _ _ _ rfl hb10 Tryd.underlying26 HIR.out) rfl ⟨rfl, ext_grown HE1.out hg10 HLA.out⟩
    · have h1' : ¬ (ls.length : Int) = 1 := by omega
      have h2 : 2 ≤ ls.length := by omega
      have HK1 := Lib.hid (merK_lt h2)
      have HK0 := Lib.hid (merK_pos ls.length)
      have HM := Lib.hid (merR_two h2)
      have HH := Lib.hid (fun w' => rhalf_any ls.length w' h2 HBL.out)
      obtain ⟨k, hk⟩ : ∃ k, k = merK ls.length := ⟨_, rfl⟩
      rw [← hk] at HK1 HK0 HM HH
      clear hk
      have k0 : (0 : Int) ≤ (k : Int) := Int.natCast_nonneg _
      have k1 : (k : Int) ≤ (ls.length : Int) := by have := HK1.out; omega
      have k2 : (k : Int) ≤ (cap : Int) := by have := HK1.out; omega
      obtain ⟨v1, hv1, hs1⟩ := rowB_upto Tryd.underlying22 Tryd.sizeOf34 HV.out k (by have := HK1.out; omega)
      obtain ⟨v2, hv2, hs2⟩ := rowB_cut Tryd.underlying22 Tryd.sizeOf34 HV.out k (by have := HK1.out; omega)
      obtain ⟨a1, c1, rfl, _⟩ := mer_form hv1
      obtain ⟨a2, c2, rfl, _⟩ := mer_form hv2
      have HV1 := Lib.hid hv1
      have HV2 := Lib.hid hv2
      have HC1 : Hid (∀ wx, Ext wa wx → Calls Tryd.prog 12 #[.slice a1 (ls.take k).length c1] wx fun e w' => e = .returned (.agg ((merR (ls.take k)).map bval).toArray) ∧ Below wx.heap.size wx w') := Lib.hid (fun wx hx => by
        have hlen : (ls.take k).length = k := by rw [List.length_take]; have := HK1.out; omega
        exact HIH.out k (by have := HK1.out; have := HN.out; omega) (ls.take k) _ wx hlen (fun l hl => HBD.out l (List.mem_of_mem_take hl)) (by rw [hlen]; have := HK1.out; have := HBL.out; omega) (HV1.out.below hx) (HG.out.ext (HE0.out.trans hx)))
      have HC2 : Hid (∀ wx, Ext wa wx → Calls Tryd.prog 12 #[.slice a2 (ls.drop k).length c2] wx fun e w' => e = .returned (.agg ((merR (ls.drop k)).map bval).toArray) ∧ Below wx.heap.size wx w') := Lib.hid (fun wx hx => by
        have hlen : (ls.drop k).length = ls.length - k := by rw [List.length_drop]
        exact HIH.out (ls.length - k) (by have := HK0.out; have := HK1.out; have := HN.out; omega) (ls.drop k) _ wx hlen (fun l hl => HBD.out l (List.mem_of_mem_drop hl)) (by rw [hlen]; have := HBL.out; omega) (HV2.out.below hx) (HG.out.ext (HE0.out.trans hx)))
      have HaL : Hid ((merR (ls.take k)).length = 32) := Lib.hid (merR_length _)
      have HbL : Hid ((merR (ls.drop k)).length = 32) := Lib.hid (merR_length _)
      generalize merR (ls.take k) = ra at *
      generalize merR (ls.drop k) = rb at *
      generalize (ls.take k).length = n1 at *
      generalize (ls.drop k).length = n2 at *
      have HRQ : Hid (merR ls = sha256 (1 :: (ra ++ rb))) := Lib.hid HM.out
      have HIa := Lib.hid (num_size HaL.out)
      have HIb := Lib.hid (num_size HbL.out)
      have HLa : Hid ((ra.map bval).length = (ints .u8 (List.replicate 32 0)).length) := Lib.hid (by rw [List.length_map, HaL.out, ints_length, List.length_replicate])
      have HLb : Hid ((rb.map bval).length = (ints .u8 (List.replicate 32 0)).length) := Lib.hid (by rw [List.length_map, HbL.out, ints_length, List.length_replicate])
      clear hv1 hv2 HM HRL HIR HLR
      have HE : Hid (Ext w wa) := HE0
      go_wp2_with fail
      refine (HH.out wa).mono ?_
      rintro e w' ⟨rfl, rfl⟩
      go_wp2_with fail
      refine (HC1.out wa (Ext.refl _)).mono ?_
      rintro e w1 ⟨rfl, hb⟩
      have HW : Hid (Ext wa w1) := Lib.hid hb
      have HB0 := Lib.hid (ext_blk HB0.out hb)
      have HE := Lib.hid (HE.out.trans hb)
      have HZ := Lib.hid (Blk.made w1 (ints .u8 (List.replicate 32 0)) 26)
      have HEA := Lib.hid (Ext.alloc w1 (.cells (ints .u8 (List.replicate 32 0)).toArray 26))
      clear hb
      go_upto_region 8 with (refine wpList_store_blk rfl _ _ _ rfl w1.heap.size (ra.map bval) rfl rfl _ _ HZ.out HLa.out HIa.out (bval_one _) ?_; intro w2 hb2 hg2)
      have HX := Lib.hid (ext_grown HEA.out hg2 (Nat.le_refl _))
      have HB0 := Lib.hid (ext_blk HB0.out HX.out)
      have HE := Lib.hid (HE.out.trans HX.out)
      have HW := Lib.hid (HW.out.trans HX.out)
      have H4 := Lib.hid hb2
      generalize w1.heap.size = B4 at *
      clear hb2 hg2 HZ HEA HX HH HC1
      go_wp2_with fail
      refine (HC2.out w2 HW.out).mono ?_
      rintro e w3 ⟨rfl, hb⟩
      have HB0 := Lib.hid (ext_blk HB0.out hb)
      have H4 := Lib.hid (ext_blk H4.out hb)
      have HE := Lib.hid (HE.out.trans hb)
      have HZ := Lib.hid (Blk.made w3 (ints .u8 (List.replicate 32 0)) 26)
      have HEA := Lib.hid (Ext.alloc w3 (.cells (ints .u8 (List.replicate 32 0)).toArray 26))
      clear hb HW
      go_upto_region 9 with (refine wpList_store_blk rfl _ _ _ rfl w3.heap.size (rb.map bval) rfl rfl _ _ HZ.out HLb.out HIb.out (bval_one _) ?_; intro w4 hb4 hg4)
      have HX := Lib.hid (ext_grown HEA.out hg4 (Nat.le_refl _))
      have HB0 := Lib.hid (ext_blk HB0.out HX.out)
      have H4 := Lib.hid (ext_blk H4.out HX.out)
      have HE := Lib.hid (HE.out.trans HX.out)
      have H5 := Lib.hid hb4
      generalize w3.heap.size = B5 at *
      clear hb4 hg4 HZ HEA HX HC2 HV1 HV2 hs1 hs2 HE0 HIH
      have B0 : Ext w4 w4.drew := Ext.drew _
      refine wp_region_held_drew (S := fun w' => Far (A) w4 w') (by kernel_rfl) (fars_ext B0) (fun hHeld => ?_)
      refine wpAnyH_take (i := 1) (v := .slice (some ⟨B4, 0, none⟩) 32 32) rfl (by kernel_rfl) (by kernel_rfl) (by kernel_rfl) (fun _ _ _ h => h) (yi_slice _ _ _ _ (.pointer (some ⟨B4, 0, none⟩)) (.slice (some ⟨B4, 0, none⟩) 32 32) none none (by rfl) rfl rfl rfl rfl (fun w => cut_whole Tryd.underlying26 Tryd.sizeOf5 (by omega) _ w)) hHeld ?_
      simp only [Act.put, List.getElem_toArray, List.getElem_cons_zero, List.getElem_cons_succ, List.setIfInBounds_toArray, List.set_cons_zero, List.set_cons_succ]
      refine wpAnyH_take (i := 3) (v := .slice (some ⟨B5, 0, none⟩) 32 32) rfl (by kernel_rfl) (by kernel_rfl) (by kernel_rfl) (fun _ _ _ h => h) (yi_slice _ _ _ _ (.pointer (some ⟨B5, 0, none⟩)) (.slice (some ⟨B5, 0, none⟩) 32 32) none none (by rfl) rfl rfl rfl rfl (fun w => cut_whole Tryd.underlying26 Tryd.sizeOf5 (by omega) _ w)) hHeld ?_
      simp only [Act.put, List.getElem_toArray, List.getElem_cons_zero, List.getElem_cons_succ, List.setIfInBounds_toArray, List.set_cons_zero, List.set_cons_succ]
      refine wpAnyH_ready (rs := [0]) (by kernel_rfl) (by simp) (AllReadyH.cons rfl (fun K hK => ?_) AllReadyH.nil)
      refine step_wp (by rfl) ?_
      refine wp_buildSlice_d (some 30) _ _ _ _ rfl rfl #[.int .u8 1] i0 (.int .u8 0) Tryd.underlying34 HI0.out HZ0.out (by rw [HZ1.out]; decide) (by rw [HZ1.out]; decide) (by rw [HZ1.out]; kernel_rfl) ?_
      obtain ⟨m1, hm1⟩ : ∃ wNew, wNew = World.alloc w4.drew (.cells #[.int .u8 1] 5) := ⟨_, rfl⟩
      rw [← hm1]
      have b1 : Ext w4.drew m1 := by rw [hm1]; exact Ext.alloc _ _
      obtain ⟨g1, hg1⟩ : ∃ gNew, gNew = (w4.drew).heap.size := ⟨_, rfl⟩
      rw [← hg1]
      have r1 : Row1 m1 (.slice (some ⟨g1, 0, none⟩) 1 1) (([1] : List UInt8).map bval) := by rw [hm1, hg1]; exact Row1.made _ _ _ _ _ _ rfl rfl rfl (by unfold maxLen; omega)
      have o1 : World.ownsRow m1 (w4).heap.size 5 1 (.slice (some ⟨g1, 0, none⟩) 1 1) 1 (([1] : List UInt8).map bval) := by rw [hm1, hg1]; exact own_made _ _ _ _ _ _ rfl rfl (by unfold maxLen; omega) B0.size
      clear hm1 hg1
      have N1 : Ext w4 m1 := B0.trans b1
      refine hK.out _ _ (fars_ext N1) (fun hHeld => ?_)
      clear hK K
      try simp only [Act.put, List.getElem_toArray, List.getElem_cons_zero, List.getElem_cons_succ, List.setIfInBounds_toArray, List.set_cons_zero, List.set_cons_succ]
      refine wpAnyH_ready (rs := [2]) (by kernel_rfl) (by simp) (AllReadyH.cons rfl (fun K hK => ?_) AllReadyH.nil)
      refine step_wp (by rfl) ?_
      refine wp_append_row _ _ 34 rfl (w4).heap.size 5 i0 (.int .u8 0) 1 Tryd.underlying34 HI0.out HZ0.out HZ1.out HZ2.out rfl (.slice (some ⟨g1, 0, none⟩) 1 1) 1 _ rfl o1 rfl ((blk_row (n := 32) H4.out (by rw [List.length_map]; exact HaL.out) (by unfold maxLen; omega)).below N1) (bval_one _) (by simp only [List.length_map, List.length_cons, List.length_nil, HaL.out, HbL.out]; unfold maxLen; omega) (by simp only [List.length_map, List.length_cons, List.length_nil, HaL.out, HbL.out]; omega) N1.size ?_
      intro v2 m2 ho2 hg2
      have N2 : Ext w4 m2 := ext_own N1 o1 (Nat.le_refl _) hg2
      have r2 : Row1 m2 v2 ((([1] ++ ra)).map bval) := by have h := Row1.of_own ho2; simpa using h
      have o2 : World.ownsRow m2 (w4).heap.size 5 1 v2 ((1 :: ra).length) ((1 :: ra).map bval) := own_eq ho2 (by rw [List.length_map, List.length_cons]; omega) (by rfl)
      have r2 : Row1 m2 v2 ((1 :: ra).map bval) := Row1.of_own o2
      refine hK.out _ _ (fars_ext N2) (fun hHeld => ?_)
      clear hK K
      try simp only [Act.put, List.getElem_toArray, List.getElem_cons_zero, List.getElem_cons_succ, List.setIfInBounds_toArray, List.set_cons_zero, List.set_cons_succ]
      refine wpAnyH_ready (rs := [4]) (by kernel_rfl) (by simp) (AllReadyH.cons rfl (fun K hK => ?_) AllReadyH.nil)
      refine step_wp (by rfl) ?_
      refine wp_append_row _ _ 34 rfl (w4).heap.size 5 i0 (.int .u8 0) 1 Tryd.underlying34 HI0.out HZ0.out HZ1.out HZ2.out rfl (v2) (1 :: ra).length _ rfl o2 rfl ((blk_row (n := 32) H5.out (by rw [List.length_map]; exact HbL.out) (by unfold maxLen; omega)).below N2) (bval_one _) (by simp only [List.length_map, List.length_cons, List.length_nil, HaL.out, HbL.out]; unfold maxLen; omega) (by simp only [List.length_map, List.length_cons, List.length_nil, HaL.out, HbL.out]; omega) N2.size ?_
      intro v3 m3 ho3 hg3
      have N3 : Ext w4 m3 := ext_own N2 o2 (Nat.le_refl _) hg3
      have r3 : Row1 m3 v3 (((1 :: ra ++ rb)).map bval) := by have h := Row1.of_own ho3; simpa using h
      have o3 : World.ownsRow m3 (w4).heap.size 5 1 v3 ((1 :: (ra ++ rb)).length) ((1 :: (ra ++ rb)).map bval) := own_eq ho3 (by rw [List.length_map, List.length_cons, List.length_cons, List.length_append]; omega) (by simp)
      have r3 : Row1 m3 v3 ((1 :: (ra ++ rb)).map bval) := Row1.of_own o3
      refine hK.out _ _ (fars_ext N3) (fun hHeld => ?_)
      clear hK K
      try simp only [Act.put, List.getElem_toArray, List.getElem_cons_zero, List.getElem_cons_succ, List.setIfInBounds_toArray, List.set_cons_zero, List.set_cons_succ]
      refine wpAnyH_ready (rs := [5]) (by kernel_rfl) (by simp) (AllReadyH.cons rfl (fun K hK => ?_) AllReadyH.nil)
      go_simp
      refine (rSha_any _ (1 :: (ra ++ rb)) m3 r3 (by rw [List.length_cons, List.length_append]; have := HaL.out; have := HbL.out; omega) (HG.out.ext (HE.out.trans N3))).mono ?_
      rintro e m4 ⟨rfl, b4⟩
      have r3 := r3.below b4
      have o3 := own_below o3 b4
      have N4 : Ext w4 m4 := N3.trans b4
      refine hK.out _ _ (fars_ext N4) (fun hHeld => ?_)
      clear hK K
      try simp only [Act.put, List.getElem_toArray, List.getElem_cons_zero, List.getElem_cons_succ, List.setIfInBounds_toArray, List.set_cons_zero, List.set_cons_succ]
      refine wpAnyH_ready (rs := [6]) (by kernel_rfl) (by simp) (AllReadyH.cons rfl (fun K hK => ?_) AllReadyH.nil)
      refine step_wp (by rfl) ?_
      refine wp_store_blk _ _ _ rfl (A) ((sha256 (1 :: (ra ++ rb))).map bval) rfl rfl _ _ (ext_blk HB0.out N4) (by rw [List.length_map, sha256_length, ints_length]; rfl) (num_size ((sha256_length _))) (bval_one _) ?_
      intro m5 hb5 hg5
      refine hK.out _ _ (fars_put N4 hg5) (fun hHeld => ?_)
      clear hK K
      try simp only [Act.put, List.getElem_toArray, List.getElem_cons_zero, List.getElem_cons_succ, List.setIfInBounds_toArray, List.set_cons_zero, List.set_cons_succ]
      refine wpAnyH_done (by kernel_rfl) ?_ _
      have hfin := hb5
      have hNN := ext_grown (HE.out.trans N4) hg5 HLA.out
      generalize m5 = w11 at hfin hNN ⊢
      have HIo : Hid ((Tryd.prog.info? 26).map (·.size) = some ((sha256 (1 :: (ra ++ rb))).map bval).length) := Lib.hid (num_size (sha256_length _))
      go_wp2_with fail
      refine bodyPost_ret (result_blk rfl _ A _ _ _ _ rfl hfin Tryd.underlying26 HIo.out) rfl ⟨by rw [HRQ.out], hNN⟩

theorem rRoot_any (ls : List (List UInt8)) (v : Value) (w : World) (hb : ∀ l ∈ ls, l.length ≤ 1000000000) (hl : ls.length ≤ 1152921504606846976) (hv : RowB w v ls) (hG : GlobK w) :
    Calls Tryd.prog 12 #[v] w fun e w' => e = .returned (.agg ((merR ls).map bval).toArray) ∧ Below w.heap.size w w' :=
  Nat.strongRecOn (motive := RootSaid) ls.length rRoot_step ls v w rfl hb hl hv hG

theorem own_eqS {w : World} {base size : Nat} {e : TypeId} {n m : Nat} {x : Value} {xs ys : List Value} (h : w.ownsRow base e size x n xs) (hn : n = m) (hx : xs = ys) : w.ownsRow base e size x m ys := by
  subst hn; subst hx
  exact h
def PathSaid (n : Nat) : Prop := ∀ (ls : List (List UInt8)) (v : Value) (i : Nat) (w : World), ls.length = n → (∀ l ∈ ls, l.length ≤ 1000000000) → ls.length ≤ 1152921504606846976 → i < ls.length → RowB w v ls → GlobK w →
    Calls Tryd.prog 15 #[v, .int .i64 (i : Int)] w fun e w' => ∃ x, e = .returned x ∧ w'.ownsRow w.heap.size 26 32 x (merP ls i).length ((merP ls i).flatten.map bval) ∧ Below w.heap.size w w'

set_option maxRecDepth 100000 in
set_option maxHeartbeats 8000000 in
theorem rPath_step (n : Nat) (ih : ∀ k, k < n → PathSaid k) : PathSaid n := by
  intro ls v i w hn hbd hbl hil hv hG
  obtain ⟨iq, hq0, hq1, hq2, hq3⟩ := info_numz (P := Tryd.prog) (t := 26) (z := .agg (zer.map bval).toArray) (n := 32) (b := 32) (by kernel_rfl)
  have HQ0 := Lib.hid hq0
  have HQ1 := Lib.hid hq1
  have HQ2 := Lib.hid hq2
  have HQ3 := Lib.hid hq3
  have HIH := Lib.hid ih
  have HG := Lib.hid hG
  have HBD := Lib.hid hbd
  have HBL := Lib.hid hbl
  have HIL := Lib.hid hil
  have HN := Lib.hid hn
  obtain ⟨a, cap, rfl, r1, r2⟩ := mer_form hv
  unfold maxLen at r2
  have HV := Lib.hid hv
  have l0 : (0 : Int) ≤ (ls.length : Int) := Int.natCast_nonneg _
  have i0 : (0 : Int) ≤ (i : Int) := Int.natCast_nonneg _
  clear ih hG hbd hbl hil hn hv hq0 hq1 hq2 hq3
  by_cases h2 : ls.length < 2
  · have h2' : (ls.length : Int) < 2 := by omega
    have HP0 := Lib.hid (merP_few i h2)
    go_enter Tryd.func15, Tryd.ntmps15
    go_wp2_with fail
    go_ret
    exact ⟨_, rfl, by rw [HP0.out]; exact World.ownsRow_nil _ _ _ _, Below.refl _ _⟩
  · have h2' : ¬ (ls.length : Int) < 2 := by omega
    have h2 : 2 ≤ ls.length := by omega
    have HK1 := Lib.hid (merK_lt h2)
    have HK0 := Lib.hid (merK_pos ls.length)
    have HH := Lib.hid (fun w' => rhalf_any ls.length w' h2 HBL.out)
    obtain ⟨k, hk⟩ : ∃ k, k = merK ls.length := ⟨_, rfl⟩
    rw [← hk] at HK1 HK0 HH
    have HKE := Lib.hid hk
    clear hk
    have k0 : (0 : Int) ≤ (k : Int) := Int.natCast_nonneg _
    have k1 : (k : Int) ≤ (ls.length : Int) := by have := HK1.out; omega
    have k2 : (k : Int) ≤ (cap : Int) := by have := HK1.out; omega
    obtain ⟨v1, hv1, hs1⟩ := rowB_upto Tryd.underlying22 Tryd.sizeOf34 HV.out k (by have := HK1.out; omega)
    obtain ⟨v2, hv2, hs2⟩ := rowB_cut Tryd.underlying22 Tryd.sizeOf34 HV.out k (by have := HK1.out; omega)
    obtain ⟨a1, c1, rfl, _⟩ := mer_form hv1
    obtain ⟨a2, c2, rfl, _⟩ := mer_form hv2
    have HV1 := Lib.hid hv1
    have HV2 := Lib.hid hv2
    have HS1 := Lib.hid hs1
    have HS2 := Lib.hid hs2
    clear hv1 hv2 hs1 hs2
    go_enter Tryd.func15, Tryd.ntmps15
    go_wp2_with fail
    refine (HH.out w).mono ?_
    rintro e w' ⟨rfl, rfl⟩
    by_cases hik : i < k
    · have hik' : (i : Int) < (k : Int) := by omega
      have HPE : Hid (merP ls i = merP (ls.take k) i ++ [merR (ls.drop k)]) := Lib.hid (by rw [HKE.out]; exact merP_low h2 (by rw [← HKE.out]; exact hik))
      have HP : Hid (∀ wx, Ext w wx → Calls Tryd.prog 15 #[.slice a1 (ls.take k).length c1, .int .i64 ((i : Nat) : Int)] wx fun e w' => ∃ x, e = .returned x ∧ w'.ownsRow wx.heap.size 26 32 x (merP (ls.take k) i).length ((merP (ls.take k) i).flatten.map bval) ∧ Below wx.heap.size wx w') := Lib.hid (fun wx hx => by
        have hlen : (ls.take k).length = k := by rw [List.length_take]; have := HK1.out; omega
        exact HIH.out (ls.take k).length (by rw [hlen]; have := HK0.out; have := HK1.out; have := HN.out; omega) (ls.take k) _ i wx rfl (fun l hl => HBD.out l (List.mem_of_mem_take hl)) (by rw [hlen]; have := HK1.out; have := HBL.out; omega) (by rw [hlen]; have := HIL.out; omega) (HV1.out.below hx) (HG.out.ext hx))
      have HR : Hid (∀ wx, Ext w wx → Calls Tryd.prog 12 #[.slice a2 (ls.drop k).length c2] wx fun e w' => e = .returned (.agg ((merR (ls.drop k)).map bval).toArray) ∧ Below wx.heap.size wx w') := Lib.hid (fun wx hx => rRoot_any (ls.drop k) _ wx (fun l hl => HBD.out l (List.mem_of_mem_drop hl)) (by have := HBL.out; rw [List.length_drop]; omega) (HV2.out.below hx) (HG.out.ext hx))
      have HPM : Hid ((merP (ls.take k) i).length ≤ 60) := Lib.hid (merP_most 60 _ _ (by rw [List.length_take]; have := HBL.out; omega))
      have HbL : Hid ((merR (ls.drop k)).length = 32) := Lib.hid (merR_length _)
      generalize merP (ls.take k) i = pl at *
      generalize merR (ls.drop k) = rb at *
      generalize (ls.take k).length = n1 at *
      generalize (ls.drop k).length = n2 at *
      clear HIH HKE HV1 HV2 hik
      go_upto_region 5 with (fail)
      have B0 : Ext w w.drew := Ext.drew _
      refine wp_region_held_drew (S := fun w' => Ext w w') (by kernel_rfl) B0 (fun hHeld => ?_)
      refine wpAnyH_take (i := 0) (v := .slice a ls.length cap) rfl (by kernel_rfl) (by kernel_rfl) (by kernel_rfl) (fun _ _ _ h => h) (yi_move _ (.slice a ls.length cap) (by rfl) rfl rfl) hHeld ?_
      simp only [Act.put, List.getElem_toArray, List.getElem_cons_zero, List.getElem_cons_succ, List.setIfInBounds_toArray, List.set_cons_zero, List.set_cons_succ]
      refine wpAnyH_take (i := 1) (v := .int .i64 (k : Int)) rfl (by kernel_rfl) (by kernel_rfl) (by kernel_rfl) (fun _ _ _ h => h) (yi_move _ (.int .i64 (k : Int)) (by rfl) rfl rfl) hHeld ?_
      simp only [Act.put, List.getElem_toArray, List.getElem_cons_zero, List.getElem_cons_succ, List.setIfInBounds_toArray, List.set_cons_zero, List.set_cons_succ]
      refine wpAnyH_take (i := 2) (v := .slice a1 n1 c1) rfl (by kernel_rfl) (by kernel_rfl) (by kernel_rfl) (fun _ _ _ h => h) (yi_slice _ _ _ _ (.slice a ls.length cap) (.slice a1 n1 c1) none (some (.int .i64 (k : Int))) (by rfl) rfl rfl rfl rfl HS1.out) hHeld ?_
      simp only [Act.put, List.getElem_toArray, List.getElem_cons_zero, List.getElem_cons_succ, List.setIfInBounds_toArray, List.set_cons_zero, List.set_cons_succ]
      refine wpAnyH_take (i := 3) (v := .int .i64 (i : Int)) rfl (by kernel_rfl) (by kernel_rfl) (by kernel_rfl) (fun _ _ _ h => h) (yi_move _ (.int .i64 (i : Int)) (by rfl) rfl rfl) hHeld ?_
      simp only [Act.put, List.getElem_toArray, List.getElem_cons_zero, List.getElem_cons_succ, List.setIfInBounds_toArray, List.set_cons_zero, List.set_cons_succ]
      refine wpAnyH_take (i := 5) (v := .slice a ls.length cap) rfl (by kernel_rfl) (by kernel_rfl) (by kernel_rfl) (fun _ _ _ h => h) (yi_move _ (.slice a ls.length cap) (by rfl) rfl rfl) hHeld ?_
      simp only [Act.put, List.getElem_toArray, List.getElem_cons_zero, List.getElem_cons_succ, List.setIfInBounds_toArray, List.set_cons_zero, List.set_cons_succ]
      refine wpAnyH_take (i := 6) (v := .int .i64 (k : Int)) rfl (by kernel_rfl) (by kernel_rfl) (by kernel_rfl) (fun _ _ _ h => h) (yi_move _ (.int .i64 (k : Int)) (by rfl) rfl rfl) hHeld ?_
      simp only [Act.put, List.getElem_toArray, List.getElem_cons_zero, List.getElem_cons_succ, List.setIfInBounds_toArray, List.set_cons_zero, List.set_cons_succ]
      refine wpAnyH_take (i := 7) (v := .slice a2 n2 c2) rfl (by kernel_rfl) (by kernel_rfl) (by kernel_rfl) (fun _ _ _ h => h) (yi_slice _ _ _ _ (.slice a ls.length cap) (.slice a2 n2 c2) (some (.int .i64 (k : Int))) none (by rfl) rfl rfl rfl rfl HS2.out) hHeld ?_
      simp only [Act.put, List.getElem_toArray, List.getElem_cons_zero, List.getElem_cons_succ, List.setIfInBounds_toArray, List.set_cons_zero, List.set_cons_succ]
      refine wpAnyH_ready (rs := [4]) (by kernel_rfl) (by simp) (AllReadyH.cons rfl (fun K hK => ?_) AllReadyH.nil)
      go_simp
      refine (HP.out w.drew B0).mono ?_
      rintro e m1 ⟨x1, rfl, o1, b1⟩
      have o1 := own_mono o1 B0.size
      have N1 : Ext w m1 := B0.trans b1
      refine hK.out _ _ N1 (fun hHeld => ?_)
      clear hK K
      try simp only [Act.put, List.getElem_toArray, List.getElem_cons_zero, List.getElem_cons_succ, List.setIfInBounds_toArray, List.set_cons_zero, List.set_cons_succ]
      refine wpAnyH_ready (rs := [8]) (by kernel_rfl) (by simp) (AllReadyH.cons rfl (fun K hK => ?_) AllReadyH.nil)
      go_simp
      refine (HR.out m1 N1).mono ?_
      rintro e m2 ⟨rfl, b2⟩
      have o1 := own_below o1 b2
      have N2 : Ext w m2 := N1.trans b2
      refine hK.out _ _ N2 (fun hHeld => ?_)
      clear hK K
      try simp only [Act.put, List.getElem_toArray, List.getElem_cons_zero, List.getElem_cons_succ, List.setIfInBounds_toArray, List.set_cons_zero, List.set_cons_succ]
      refine wpAnyH_ready (rs := [9]) (by kernel_rfl) (by simp) (AllReadyH.cons rfl (fun K hK => ?_) AllReadyH.nil)
      refine step_wp (by rfl) ?_
      refine wp_build_num (some 24) _ _ _ rb rfl rfl Tryd.underlying28 HQ0.out HQ1.out HQ2.out (by rfl) rfl HbL.out ?_
      obtain ⟨m3, hm3⟩ : ∃ wNew, wNew = World.alloc m2 (.cells (rb.map bval).toArray 26) := ⟨_, rfl⟩
      rw [← hm3]
      have b3 : Ext m2 m3 := by rw [hm3]; exact Ext.alloc _ _
      obtain ⟨g3, hg3⟩ : ∃ gNew, gNew = (m2).heap.size := ⟨_, rfl⟩
      rw [← hg3]
      have o1 := own_below o1 b3
      have z3 : Blk m3 g3 (rb.map bval) 26 := by rw [hm3, hg3]; exact Blk.made _ _ _
      clear hm3 hg3
      have N3 : Ext w m3 := N2.trans b3
      refine hK.out _ _ N3 (fun hHeld => ?_)
      clear hK K
      try simp only [Act.put, List.getElem_toArray, List.getElem_cons_zero, List.getElem_cons_succ, List.setIfInBounds_toArray, List.set_cons_zero, List.set_cons_succ]
      refine wpAnyH_ready (rs := [10]) (by kernel_rfl) (by simp) (AllReadyH.cons rfl (fun K hK => ?_) AllReadyH.nil)
      refine step_wp (by rfl) ?_
      refine wp_append_num (some 25) _ _ _ rfl rfl (w).heap.size _ Tryd.underlying28 HQ0.out HQ1.out HQ2.out HQ3.out (by rfl) _ _ _ rfl o1 g3 1 rb rfl z3.range HbL.out (by have := HPM.out; omega) N3.size ?_
      intro v4 m4 ho4 hg4
      have N4 : Ext w m4 := ext_ownS N3 o1 (Nat.le_refl _) hg4
      refine hK.out _ _ N4 (fun hHeld => ?_)
      clear hK K
      try simp only [Act.put, List.getElem_toArray, List.getElem_cons_zero, List.getElem_cons_succ, List.setIfInBounds_toArray, List.set_cons_zero, List.set_cons_succ]
      refine wpAnyH_ready (rs := [11]) (by kernel_rfl) (by simp) (AllReadyH.cons rfl (fun K hK => ?_) AllReadyH.nil)
      go_simp
      refine hK.out _ _ N4 (fun hHeld => ?_)
      clear hK K
      try simp only [Act.put, List.getElem_toArray, List.getElem_cons_zero, List.getElem_cons_succ, List.setIfInBounds_toArray, List.set_cons_zero, List.set_cons_succ]
      refine wpAnyH_done (by kernel_rfl) ?_ _
      have HO := Lib.hid ho4
      have HN9 : Hid (Ext w m4) := Lib.hid N4
      generalize m4 = w9 at HO HN9 ⊢
      go_wp2_with fail
      go_ret
      exact ⟨_, rfl, own_eqS HO.out (by rw [HPE.out, List.length_append, List.length_singleton]) (by rw [HPE.out, flat_snoc, List.map_append]), HN9.out⟩
    · have hik' : ¬ (i : Int) < (k : Int) := by omega
      have HPE : Hid (merP ls i = merP (ls.drop k) (i - k) ++ [merR (ls.take k)]) := Lib.hid (by rw [HKE.out]; exact merP_high h2 (by rw [← HKE.out]; exact hik))
      have HP : Hid (∀ wx, Ext w wx → Calls Tryd.prog 15 #[.slice a2 (ls.drop k).length c2, .int .i64 (((i - k) : Nat) : Int)] wx fun e w' => ∃ x, e = .returned x ∧ w'.ownsRow wx.heap.size 26 32 x (merP (ls.drop k) (i - k)).length ((merP (ls.drop k) (i - k)).flatten.map bval) ∧ Below wx.heap.size wx w') := Lib.hid (fun wx hx => by
        have hlen : (ls.drop k).length = ls.length - k := by rw [List.length_drop]
        exact HIH.out (ls.drop k).length (by rw [hlen]; have := HK0.out; have := HK1.out; have := HN.out; omega) (ls.drop k) _ (i - k) wx rfl (fun l hl => HBD.out l (List.mem_of_mem_drop hl)) (by rw [hlen]; have := HK1.out; have := HBL.out; omega) (by rw [hlen]; have := HIL.out; omega) (HV2.out.below hx) (HG.out.ext hx))
      have HR : Hid (∀ wx, Ext w wx → Calls Tryd.prog 12 #[.slice a1 (ls.take k).length c1] wx fun e w' => e = .returned (.agg ((merR (ls.take k)).map bval).toArray) ∧ Below wx.heap.size wx w') := Lib.hid (fun wx hx => rRoot_any (ls.take k) _ wx (fun l hl => HBD.out l (List.mem_of_mem_take hl)) (by have := HBL.out; rw [List.length_take]; omega) (HV1.out.below hx) (HG.out.ext hx))
      have HPM : Hid ((merP (ls.drop k) (i - k)).length ≤ 60) := Lib.hid (merP_most 60 _ _ (by rw [List.length_drop]; have := HBL.out; omega))
      have HbL : Hid ((merR (ls.take k)).length = 32) := Lib.hid (merR_length _)
      have HSUB : Hid (IntKind.i64.wrap ((i : Int) - (k : Int)) = ((i - k : Nat) : Int)) := Lib.hid (by rw [IntKind.wrap_i64]; have := HIL.out; have := HBL.out; omega)
      generalize merP (ls.drop k) (i - k) = pl at *
      generalize merR (ls.take k) = rb at *
      generalize (ls.take k).length = n1 at *
      generalize (ls.drop k).length = n2 at *
      generalize i - k = ik at *
      clear HIH HKE HV1 HV2 hik
      go_upto_region 6 with (fail)
      have B0 : Ext w w.drew := Ext.drew _
      refine wp_region_held_drew (S := fun w' => Ext w w') (by kernel_rfl) B0 (fun hHeld => ?_)
      refine wpAnyH_take (i := 0) (v := .slice a ls.length cap) rfl (by kernel_rfl) (by kernel_rfl) (by kernel_rfl) (fun _ _ _ h => h) (yi_move _ (.slice a ls.length cap) (by rfl) rfl rfl) hHeld ?_
      simp only [Act.put, List.getElem_toArray, List.getElem_cons_zero, List.getElem_cons_succ, List.setIfInBounds_toArray, List.set_cons_zero, List.set_cons_succ]
      refine wpAnyH_take (i := 1) (v := .int .i64 (k : Int)) rfl (by kernel_rfl) (by kernel_rfl) (by kernel_rfl) (fun _ _ _ h => h) (yi_move _ (.int .i64 (k : Int)) (by rfl) rfl rfl) hHeld ?_
      simp only [Act.put, List.getElem_toArray, List.getElem_cons_zero, List.getElem_cons_succ, List.setIfInBounds_toArray, List.set_cons_zero, List.set_cons_succ]
      refine wpAnyH_take (i := 2) (v := .slice a2 n2 c2) rfl (by kernel_rfl) (by kernel_rfl) (by kernel_rfl) (fun _ _ _ h => h) (yi_slice _ _ _ _ (.slice a ls.length cap) (.slice a2 n2 c2) (some (.int .i64 (k : Int))) none (by rfl) rfl rfl rfl rfl HS2.out) hHeld ?_
      simp only [Act.put, List.getElem_toArray, List.getElem_cons_zero, List.getElem_cons_succ, List.setIfInBounds_toArray, List.set_cons_zero, List.set_cons_succ]
      refine wpAnyH_take (i := 3) (v := .int .i64 (i : Int)) rfl (by kernel_rfl) (by kernel_rfl) (by kernel_rfl) (fun _ _ _ h => h) (yi_move _ (.int .i64 (i : Int)) (by rfl) rfl rfl) hHeld ?_
      simp only [Act.put, List.getElem_toArray, List.getElem_cons_zero, List.getElem_cons_succ, List.setIfInBounds_toArray, List.set_cons_zero, List.set_cons_succ]
      refine wpAnyH_take (i := 4) (v := .int .i64 (k : Int)) rfl (by kernel_rfl) (by kernel_rfl) (by kernel_rfl) (fun _ _ _ h => h) (yi_move _ (.int .i64 (k : Int)) (by rfl) rfl rfl) hHeld ?_
      simp only [Act.put, List.getElem_toArray, List.getElem_cons_zero, List.getElem_cons_succ, List.setIfInBounds_toArray, List.set_cons_zero, List.set_cons_succ]
      refine wpAnyH_take (i := 5) (v := .int .i64 (ik : Int)) rfl (by kernel_rfl) (by kernel_rfl) (by kernel_rfl) (fun _ _ _ h => h) (yi_sub .i64 _ _ _ _ _ _ (ik : Int) HSUB.out (by rfl) rfl rfl rfl) hHeld ?_
      simp only [Act.put, List.getElem_toArray, List.getElem_cons_zero, List.getElem_cons_succ, List.setIfInBounds_toArray, List.set_cons_zero, List.set_cons_succ]
      refine wpAnyH_take (i := 7) (v := .slice a ls.length cap) rfl (by kernel_rfl) (by kernel_rfl) (by kernel_rfl) (fun _ _ _ h => h) (yi_move _ (.slice a ls.length cap) (by rfl) rfl rfl) hHeld ?_
      simp only [Act.put, List.getElem_toArray, List.getElem_cons_zero, List.getElem_cons_succ, List.setIfInBounds_toArray, List.set_cons_zero, List.set_cons_succ]
      refine wpAnyH_take (i := 8) (v := .int .i64 (k : Int)) rfl (by kernel_rfl) (by kernel_rfl) (by kernel_rfl) (fun _ _ _ h => h) (yi_move _ (.int .i64 (k : Int)) (by rfl) rfl rfl) hHeld ?_
      simp only [Act.put, List.getElem_toArray, List.getElem_cons_zero, List.getElem_cons_succ, List.setIfInBounds_toArray, List.set_cons_zero, List.set_cons_succ]
      refine wpAnyH_take (i := 9) (v := .slice a1 n1 c1) rfl (by kernel_rfl) (by kernel_rfl) (by kernel_rfl) (fun _ _ _ h => h) (yi_slice _ _ _ _ (.slice a ls.length cap) (.slice a1 n1 c1) none (some (.int .i64 (k : Int))) (by rfl) rfl rfl rfl rfl HS1.out) hHeld ?_
      simp only [Act.put, List.getElem_toArray, List.getElem_cons_zero, List.getElem_cons_succ, List.setIfInBounds_toArray, List.set_cons_zero, List.set_cons_succ]
      refine wpAnyH_ready (rs := [6]) (by kernel_rfl) (by simp) (AllReadyH.cons rfl (fun K hK => ?_) AllReadyH.nil)
      go_simp
      refine (HP.out w.drew B0).mono ?_
      rintro e m1 ⟨x1, rfl, o1, b1⟩
      have o1 := own_mono o1 B0.size
      have N1 : Ext w m1 := B0.trans b1
      refine hK.out _ _ N1 (fun hHeld => ?_)
      clear hK K
      try simp only [Act.put, List.getElem_toArray, List.getElem_cons_zero, List.getElem_cons_succ, List.setIfInBounds_toArray, List.set_cons_zero, List.set_cons_succ]
      refine wpAnyH_ready (rs := [10]) (by kernel_rfl) (by simp) (AllReadyH.cons rfl (fun K hK => ?_) AllReadyH.nil)
      go_simp
      refine (HR.out m1 N1).mono ?_
      rintro e m2 ⟨rfl, b2⟩
      have o1 := own_below o1 b2
      have N2 : Ext w m2 := N1.trans b2
      refine hK.out _ _ N2 (fun hHeld => ?_)
      clear hK K
      try simp only [Act.put, List.getElem_toArray, List.getElem_cons_zero, List.getElem_cons_succ, List.setIfInBounds_toArray, List.set_cons_zero, List.set_cons_succ]
      refine wpAnyH_ready (rs := [11]) (by kernel_rfl) (by simp) (AllReadyH.cons rfl (fun K hK => ?_) AllReadyH.nil)
      refine step_wp (by rfl) ?_
      refine wp_build_num (some 37) _ _ _ rb rfl rfl Tryd.underlying28 HQ0.out HQ1.out HQ2.out (by rfl) rfl HbL.out ?_
      obtain ⟨m3, hm3⟩ : ∃ wNew, wNew = World.alloc m2 (.cells (rb.map bval).toArray 26) := ⟨_, rfl⟩
      rw [← hm3]
      have b3 : Ext m2 m3 := by rw [hm3]; exact Ext.alloc _ _
      obtain ⟨g3, hg3⟩ : ∃ gNew, gNew = (m2).heap.size := ⟨_, rfl⟩
      rw [← hg3]
      have o1 := own_below o1 b3
      have z3 : Blk m3 g3 (rb.map bval) 26 := by rw [hm3, hg3]; exact Blk.made _ _ _
      clear hm3 hg3
      have N3 : Ext w m3 := N2.trans b3
      refine hK.out _ _ N3 (fun hHeld => ?_)
      clear hK K
      try simp only [Act.put, List.getElem_toArray, List.getElem_cons_zero, List.getElem_cons_succ, List.setIfInBounds_toArray, List.set_cons_zero, List.set_cons_succ]
      refine wpAnyH_ready (rs := [12]) (by kernel_rfl) (by simp) (AllReadyH.cons rfl (fun K hK => ?_) AllReadyH.nil)
      refine step_wp (by rfl) ?_
      refine wp_append_num (some 38) _ _ _ rfl rfl (w).heap.size _ Tryd.underlying28 HQ0.out HQ1.out HQ2.out HQ3.out (by rfl) _ _ _ rfl o1 g3 1 rb rfl z3.range HbL.out (by have := HPM.out; omega) N3.size ?_
      intro v4 m4 ho4 hg4
      have N4 : Ext w m4 := ext_ownS N3 o1 (Nat.le_refl _) hg4
      refine hK.out _ _ N4 (fun hHeld => ?_)
      clear hK K
      try simp only [Act.put, List.getElem_toArray, List.getElem_cons_zero, List.getElem_cons_succ, List.setIfInBounds_toArray, List.set_cons_zero, List.set_cons_succ]
      refine wpAnyH_ready (rs := [13]) (by kernel_rfl) (by simp) (AllReadyH.cons rfl (fun K hK => ?_) AllReadyH.nil)
      go_simp
      refine hK.out _ _ N4 (fun hHeld => ?_)
      clear hK K
      try simp only [Act.put, List.getElem_toArray, List.getElem_cons_zero, List.getElem_cons_succ, List.setIfInBounds_toArray, List.set_cons_zero, List.set_cons_succ]
      refine wpAnyH_done (by kernel_rfl) ?_ _
      have HO := Lib.hid ho4
      have HN9 : Hid (Ext w m4) := Lib.hid N4
      generalize m4 = w9 at HO HN9 ⊢
      go_wp2_with fail
      go_ret
      exact ⟨_, rfl, own_eqS HO.out (by rw [HPE.out, List.length_append, List.length_singleton]) (by rw [HPE.out, flat_snoc, List.map_append]), HN9.out⟩
theorem rPath_any (ls : List (List UInt8)) (v : Value) (i : Nat) (w : World) (hb : ∀ l ∈ ls, l.length ≤ 1000000000) (hl : ls.length ≤ 1152921504606846976) (hi : i < ls.length) (hv : RowB w v ls) (hG : GlobK w) :
    Calls Tryd.prog 15 #[v, .int .i64 (i : Int)] w fun e w' => ∃ x, e = .returned x ∧ w'.ownsRow w.heap.size 26 32 x (merP ls i).length ((merP ls i).flatten.map bval) ∧ Below w.heap.size w w' :=
  Nat.strongRecOn (motive := PathSaid) ls.length rPath_step ls v i w rfl hb hl hi hv hG

end Go.Proofs.YtcadfccijeodbaaDoor
