/- Texts that belong together, one behind the other. -/
import Derived.Test.YtckggbkoabmjiaaGreatDoorQz14
import Derived.Test.YtckggbkoabmjiaaGreatDoorQz15
namespace Go.Proofs.YtckggbkoabmjiaaGreatDoor
set_option linter.unusedVariables false
set_option linter.unusedSimpArgs false
open Go.RowKit
theorem u8_oneV : (Tryz.prog.info? 5).map (·.size) = some 1 := by kernel_rfl
theorem rwide_v (v : Value) (ls : List (List UInt8)) (l : List UInt8) (w : World) (hv : RowB w v ls) (hf : ls.flatten = l) (hl : l.length ≤ 1099511627776) (hK : GlobK5 w) (hO : GlobO w) : Calls Tryz.prog 23 #[v] w fun e w' => e = .returned (.agg ((wideB l).map bval).toArray) ∧ Below w.heap.size w w' := by
 subst hf
 exact rwide_f v ls w hv hl hK hO
set_option maxRecDepth 100000 in
set_option maxHeartbeats 16000000 in
theorem rverify_f (key g m : List UInt8) (bv : Value) (w : World) (hk : key.length = 32) (hg : g.length = 64) (hb : Row1 w bv (m.map bval)) (hm : m.length ≤ 1000000000000) (hK : GlobK5 w) (hO : GlobO w) (hD : GlobD w) (hG : Glob w) (hX : GlobX w) (hY : GlobY w) :
  Calls Tryz.prog 7 #[.agg (key.map bval).toArray, .agg (g.map bval).toArray, bv] w fun e w' => e = .returned (.bool (verB key g m)) ∧ Below w.heap.size w w' := by
 obtain ⟨iq, hq0, hq1, hq2⟩ := info_two (P := Tryz.prog) (t := 26) (z := .slice none 0 0) (n := 1) (by kernel_rfl)
 have HQ0 := Lib.hid hq0
 have HQ1 := Lib.hid hq1
 have HQ2 := Lib.hid hq2
 obtain ⟨am, cm, hbv, _⟩ := id hb
 rw [List.length_map] at hbv
 subst hbv
 have HM0 := Lib.hid hb
 have HML := Lib.hid hm
 have HKL := Lib.hid hk
 have HGL := Lib.hid hg
 have HGK := Lib.hid hK
 have HGO := Lib.hid hO
 have HGD := Lib.hid hD
 have HGR := Lib.hid hG
 have HGX := Lib.hid hX
 have HGY := Lib.hid hY
 have HB := Lib.hid (boxes2 w (key.map bval) (g.map bval) 23 25)
 obtain ⟨r, hr⟩ : ∃ r, r = g.take 32 := ⟨_, rfl⟩
 obtain ⟨s, hs⟩ : ∃ s, s = g.drop 32 := ⟨_, rfl⟩
 have HRL : Hid (r.length = 32) := Lib.hid (by rw [hr, List.length_take, hg]; rfl)
 have HSL : Hid (s.length = 32) := Lib.hid (by rw [hs, List.length_drop, hg])
 have HRL0 : Hid ((g.take 32).length = 32) := Lib.hid (by rw [List.length_take, hg]; rfl)
 have HSL0 : Hid ((g.drop 32).length = 32) := Lib.hid (by rw [List.length_drop, hg])
 have HRE := Lib.hid hr
 have HSE := Lib.hid hs
 clear hq0 hq1 hq2 hk hg hb hm hK hO hD hG hX hY hr hs
 go_enter Tryz.func7, Tryz.ntmps7
 go_upto_region 1 with (fail)
 obtain ⟨H1, H2, HE⟩ := HB.out
 change Code.wp _ _ _ _ ((w.alloc (.cells (key.map bval).toArray 23)).alloc (.cells (g.map bval).toArray 25))
 generalize (w.alloc (.cells (key.map bval).toArray 23)).alloc (.cells (g.map bval).toArray 25) = wa at *
 obtain ⟨A, hA⟩ : ∃ A, A = w.heap.size := ⟨_, rfl⟩
 have HOA : Hid (w.heap.size ≤ A) := Lib.hid (by omega)
 rw [← hA] at H1 H2 ⊢
 have HKB := Lib.hid H1
 have HG := Lib.hid H2
 have HE : Hid (Ext w wa) := Lib.hid HE
 clear hA HB H1 H2
 have HXA := Ext.alloc wa (.cells (ints .u8 (List.replicate 32 0)).toArray 23)
 obtain ⟨Rb, hT⟩ : ∃ T, T = wa.heap.size := ⟨_, rfl⟩
 have HORb : Hid (A + 1 < Rb) := Lib.hid (by rw [hT]; exact HG.out.lt)
 have HRb : Hid (Blk (wa.alloc (.cells (ints .u8 (List.replicate 32 0)).toArray 23)) Rb ((List.replicate 32 (0 : UInt8)).map bval) 23) := Lib.hid (by rw [hT]; exact Blk.made wa (ints .u8 (List.replicate 32 0)) 23)
 have HKB := Lib.hid (zaa HKB.out HXA)
 have HG := Lib.hid (zaa HG.out HXA)
 have HE := Lib.hid (HE.out.trans HXA)
 have HOA := Lib.hid (And.intro HOA.out HORb.out)
 clear HXA
 go_upto_region 2 with (fail)
 change Code.wp _ _ _ _ (wa.alloc (.cells (ints .u8 (List.replicate 32 0)).toArray 23))
 rw [← hT]
 clear hT
 generalize wa.alloc (.cells (ints .u8 (List.replicate 32 0)).toArray 23) = wb at *
 have HXA := Ext.alloc wb (.cells (ints .u8 (List.replicate 32 0)).toArray 23)
 obtain ⟨Sb, hT⟩ : ∃ T, T = wb.heap.size := ⟨_, rfl⟩
 have HOSb : Hid (Rb < Sb) := Lib.hid (by rw [hT]; exact HRb.out.lt)
 have HSb : Hid (Blk (wb.alloc (.cells (ints .u8 (List.replicate 32 0)).toArray 23)) Sb ((List.replicate 32 (0 : UInt8)).map bval) 23) := Lib.hid (by rw [hT]; exact Blk.made wb (ints .u8 (List.replicate 32 0)) 23)
 have HKB := Lib.hid (zaa HKB.out HXA)
 have HG := Lib.hid (zaa HG.out HXA)
 have HRb := Lib.hid (zaa HRb.out HXA)
 have HE := Lib.hid (HE.out.trans HXA)
 have HOA := Lib.hid (And.intro HOA.out HOSb.out)
 clear HXA
 go_upto_region 3 with (fail)
 change Code.wp _ _ _ _ (wb.alloc (.cells (ints .u8 (List.replicate 32 0)).toArray 23))
 rw [← hT]
 clear hT
 generalize wb.alloc (.cells (ints .u8 (List.replicate 32 0)).toArray 23) = wc at *
 refine zak 2 1 2 rfl (by kernel_rfl) (by kernel_rfl) (fun d v c a w h => by cases d <;> exact h) (by kernel_rfl) ?_
 refine zbd (.slice (some ⟨Rb, 0, none⟩) 32 32) (by rfl) (fun w hw => by go_simp) ?_
 simp only [Act.put, nrm]
 refine zbd (.slice (some ⟨A + 1, 0, none⟩) 32 64) (by rfl) (fun w hw => by go_simp) ?_
 simp only [Act.put, nrm]
 refine zaw (zee (k := 2) rfl (by kernel_rfl) (by kernel_rfl) (by kernel_rfl) rfl (fun wy hwy => ?_))
 have HKB := Lib.hid (zaa HKB.out hwy)
 have HG := Lib.hid (zaa HG.out hwy)
 have HSb := Lib.hid (zaa HSb.out hwy)
 have HRb := Lib.hid (zaa HRb.out hwy)
 have HE := Lib.hid (HE.out.trans hwy)
 clear hwy
 refine wp_copy_blk _ _ 26 26 rfl 5 Tryz.underlying26 u8_oneV _ _ _ _ _ _ rfl rfl Rb 0 _ _ HRb.out ((g.take 32).map bval) (by rw [List.length_map, HRL0.out]; rfl) (fun _ => ⟨rfl, ⟨A + 1, 0, none⟩, rfl, fun j v hj => ?_⟩) (by rw [List.length_map, HRL0.out]; simp) (zaj _) ?_
 ·have hj2 : j < 32 := by
   rcases Nat.lt_or_ge j 32 with h' | h'
   ·exact h'
   ·rw [List.getElem?_eq_none (by rw [List.length_map, HRL0.out]; omega)] at hj; cases hj
  rw [WideShapes.add_plain, HG.out.cell, ← hj, List.getElem?_map, List.getElem?_map]
  congr 1
  rw [Nat.zero_add, List.getElem?_take, if_pos hj2]
 intro wz hbz hgz
 have e32 : splice ((List.replicate 32 (0 : UInt8)).map bval) 0 ((g.take 32).map bval) = (g.take 32).map bval := by
  rw [splice_bytes, HRL0.out]
  simp
 rw [e32] at hbz
 have HKB := Lib.hid (HKB.out.grown hgz (by have := HOA.out; simp; omega))
 have HG := Lib.hid (HG.out.grown hgz (by have := HOA.out; simp; omega))
 have HSb := Lib.hid (HSb.out.grown hgz (by have := HOA.out; simp; omega))
 have HE := Lib.hid (zad HE.out hgz (by have := HOA.out; omega))
 have HRb := Lib.hid hbz
 clear hbz hgz e32
 generalize goInt ((g.take 32).map bval).length = gl at *
 simp only [Act.put, nrm]
 go_upto_region 4 with (fail)
 refine zak 2 1 2 rfl (by kernel_rfl) (by kernel_rfl) (fun d v c a w h => by cases d <;> exact h) (by kernel_rfl) ?_
 refine zbd (.slice (some ⟨Sb, 0, none⟩) 32 32) (by rfl) (fun w hw => by go_simp) ?_
 simp only [Act.put, nrm]
 refine zbd (.slice (some ⟨A + 1, 32, none⟩) 32 32) (by rfl) (fun w hw => by go_simp) ?_
 simp only [Act.put, nrm]
 refine zaw (zee (k := 2) rfl (by kernel_rfl) (by kernel_rfl) (by kernel_rfl) rfl (fun wy hwy => ?_))
 have HKB := Lib.hid (zaa HKB.out hwy)
 have HG := Lib.hid (zaa HG.out hwy)
 have HRb := Lib.hid (zaa HRb.out hwy)
 have HSb := Lib.hid (zaa HSb.out hwy)
 have HE := Lib.hid (HE.out.trans hwy)
 clear hwy
 refine wp_copy_blk _ _ 26 26 rfl 5 Tryz.underlying26 u8_oneV _ _ _ _ _ _ rfl rfl Sb 0 _ _ HSb.out ((g.drop 32).map bval) (by rw [List.length_map, HSL0.out]; rfl) (fun _ => ⟨rfl, ⟨A + 1, 32, none⟩, rfl, fun j v hj => ?_⟩) (by rw [List.length_map, HSL0.out]; simp) (zaj _) ?_
 ·have hj2 : j < 32 := by
   rcases Nat.lt_or_ge j 32 with h' | h'
   ·exact h'
   ·rw [List.getElem?_eq_none (by rw [List.length_map, HSL0.out]; omega)] at hj; cases hj
  rw [WideShapes.add_plain, HG.out.cell, ← hj, List.getElem?_map, List.getElem?_map]
  congr 1
  rw [List.getElem?_drop]
 intro wz hbz hgz
 have e32 : splice ((List.replicate 32 (0 : UInt8)).map bval) 0 ((g.drop 32).map bval) = (g.drop 32).map bval := by
  rw [splice_bytes, HSL0.out]
  simp
 rw [e32] at hbz
 have HKB := Lib.hid (HKB.out.grown hgz (by have := HOA.out; simp; omega))
 have HG := Lib.hid (HG.out.grown hgz (by have := HOA.out; simp; omega))
 have HRb := Lib.hid (HRb.out.grown hgz (by have := HOA.out; simp; omega))
 have HE := Lib.hid (zad HE.out hgz (by have := HOA.out; omega))
 have HSb := Lib.hid hbz
 clear hbz hgz e32
 generalize goInt ((g.drop 32).map bval).length = gl at *
 simp only [Act.put, nrm]
 rw [← HRE.out] at HRb
 rw [← HSE.out] at HSb
 clear HG HRL0 HSL0
 go_wp2_with (refine zag rfl _ _ rfl A rfl _ _ _ _ HKB.out Tryz.underlying23 (zae HKL.out) ?_)
 refine (rread_f key _ HKL.out (HGD.out.ext HE.out) (HGR.out.ext HE.out)).mono ?_
 rintro e wr1 ⟨cs1, rfl, hl, ho, hP1, hb⟩
 have HKB := Lib.hid (zaa HKB.out hb)
 have HRb := Lib.hid (zaa HRb.out hb)
 have HSb := Lib.hid (zaa HSb.out hb)
 have HE := Lib.hid (HE.out.trans hb)
 have HPT1 := Lib.hid hP1
 have HCL := Lib.hid hl
 have HCO := Lib.hid ho
 clear hl ho hP1 hb
 obtain ⟨mk, hmk⟩ : ∃ z, z = mayB key := ⟨_, rfl⟩
 rw [← hmk]
 have Hmk := Lib.hid hmk
 clear hmk
 have HZ := Lib.hid (Blk.made wr1 (ints .i64 (List.replicate 64 0)) 48)
 have HEA := Lib.hid (Ext.alloc wr1 (.cells (ints .i64 (List.replicate 64 0)).toArray 48))
 have HL : Hid (cs1.length = (ints .i64 (List.replicate 64 0)).length) := Lib.hid (by rw [HCL.out, zab]; rfl)
 have HI1 : Hid ((Tryz.prog.info? 48).map (·.size) = some cs1.length) := Lib.hid (by rw [HCL.out]; kernel_rfl)
 go_upto_region 6 with (refine zac rfl _ _ _ rfl wr1.heap.size cs1 rfl rfl _ _ HZ.out HL.out HI1.out HCO.out ?_; intro ws1 hb2 hg2)
 have HX := Lib.hid (zad HEA.out hg2 (Nat.le_refl _))
 generalize wr1.heap.size = Tp at *
 have HTp := Lib.hid hb2
 have HKB := Lib.hid (zaa HKB.out HX.out)
 have HRb := Lib.hid (zaa HRb.out HX.out)
 have HSb := Lib.hid (zaa HSb.out HX.out)
 have HE := Lib.hid (HE.out.trans HX.out)
 clear hb2 hg2 HZ HEA HX HL HCL HCO
 go_wp2_with (refine zag rfl _ _ rfl Rb rfl _ _ _ _ HRb.out Tryz.underlying23 (zae HRL.out) ?_)
 refine (rread_f r _ HRL.out (HGD.out.ext HE.out) (HGR.out.ext HE.out)).mono ?_
 rintro e wr2 ⟨cs2, rfl, hl, ho, hP2, hb⟩
 have HKB := Lib.hid (zaa HKB.out hb)
 have HRb := Lib.hid (zaa HRb.out hb)
 have HSb := Lib.hid (zaa HSb.out hb)
 have HTp := Lib.hid (zaa HTp.out hb)
 have HE := Lib.hid (HE.out.trans hb)
 have HPT2 := Lib.hid hP2
 have HCL := Lib.hid hl
 have HCO := Lib.hid ho
 clear hl ho hP2 hb
 obtain ⟨mr, hmr⟩ : ∃ z, z = mayB r := ⟨_, rfl⟩
 rw [← hmr]
 have Hmr := Lib.hid hmr
 clear hmr
 have HZ := Lib.hid (Blk.made wr2 (ints .i64 (List.replicate 64 0)) 48)
 have HEA := Lib.hid (Ext.alloc wr2 (.cells (ints .i64 (List.replicate 64 0)).toArray 48))
 have HL : Hid (cs2.length = (ints .i64 (List.replicate 64 0)).length) := Lib.hid (by rw [HCL.out, zab]; rfl)
 have HI2 : Hid ((Tryz.prog.info? 48).map (·.size) = some cs2.length) := Lib.hid (by rw [HCL.out]; kernel_rfl)
 go_upto_region 7 with (refine zac rfl _ _ _ rfl wr2.heap.size cs2 rfl rfl _ _ HZ.out HL.out HI2.out HCO.out ?_; intro ws2 hb2 hg2)
 have HX := Lib.hid (zad HEA.out hg2 (Nat.le_refl _))
 generalize wr2.heap.size = Tq at *
 have HTq := Lib.hid hb2
 have HKB := Lib.hid (zaa HKB.out HX.out)
 have HRb := Lib.hid (zaa HRb.out HX.out)
 have HSb := Lib.hid (zaa HSb.out HX.out)
 have HTp := Lib.hid (zaa HTp.out HX.out)
 have HE := Lib.hid (HE.out.trans HX.out)
 clear hb2 hg2 HZ HEA HX HL HCL HCO
 by_cases hmk : edMay key
 case neg =>
  obtain rfl : mk = false := by rw [Hmk.out, zep hmk]
  have HV : Hid (verB key g m = false) := Lib.hid (zeo (fun h => hmk (by obtain ⟨_, A, R, hA, _⟩ := h; exact ⟨A, hA⟩)))
  go_wp2_with fail
  go_ret
  exact ⟨by rw [HV.out]; rfl, HE.out⟩
 obtain rfl : mk = true := by rw [Hmk.out, zez hmk]
 by_cases hmr : edMay r
 case neg =>
  obtain rfl : mr = false := by rw [Hmr.out, zep hmr]
  have HV : Hid (verB key g m = false) := Lib.hid (zeo (fun h => hmr (by obtain ⟨_, A, R, _, hR, _⟩ := h; exact ⟨R, by rw [hR, HRE.out]⟩)))
  go_wp2_with fail
  go_ret
  exact ⟨by rw [HV.out]; rfl, HE.out⟩
 obtain rfl : mr = true := by rw [Hmr.out, zez hmr]
 obtain ⟨Q, hQ⟩ := hmk
 obtain ⟨R, hR⟩ := hmr
 have HQ := Lib.hid hQ
 have HRR := Lib.hid hR
 clear hQ hR
 obtain ⟨lb, hlb⟩ : ∃ lb, lb = lessB s := ⟨_, rfl⟩
 have HLS : Hid (∀ w, GlobO w → Calls Tryz.prog 22 #[.agg (s.map bval).toArray] w fun e w' => e = .returned (.bool lb) ∧ Below w.heap.size w w') := Lib.hid (fun w h => by rw [hlb]; exact rLess_num s w HSL.out h)
 have HLB := Lib.hid hlb
 clear hlb
 go_wp2_with (refine zcu (by rfl) _ _ rfl Sb rfl _ _ _ _ HSb.out Tryz.underlying23 (zae HSL.out) ?_)
 refine (HLS.out _ (HGO.out.ext HE.out)).mono ?_
 rintro e wl ⟨rfl, hb⟩
 have HKB := Lib.hid (zaa HKB.out hb)
 have HRb := Lib.hid (zaa HRb.out hb)
 have HSb := Lib.hid (zaa HSb.out hb)
 have HTp := Lib.hid (zaa HTp.out hb)
 have HTq := Lib.hid (zaa HTq.out hb)
 have HE := Lib.hid (HE.out.trans hb)
 clear hb
 cases lb with
 | false =>
  have HV : Hid (verB key g m = false) := Lib.hid (zeo (fun h => by unfold edVer at h; rw [← HSE.out, ← HLB.out] at h; exact absurd h.1 (by decide)))
  go_wp2_with fail
  go_ret
  exact ⟨by rw [HV.out]; rfl, HE.out⟩
 | true =>
  have HM9 := Lib.hid (HM0.out.below HE.out)
  obtain ⟨k, hk⟩ : ∃ k, k = wideB (r ++ (key ++ m)) := ⟨_, rfl⟩
  have HKKL : Hid (k.length = 32) := Lib.hid (by rw [hk]; exact zbn _)
  have HKE := Lib.hid hk
  have HWD : Hid (∀ v w', Ext wl w' → RowB w' v [r, key, m] → Calls Tryz.prog 23 #[v] w' fun e w'' => e = .returned (.agg (k.map bval).toArray) ∧ Below w'.heap.size w' w'') := Lib.hid (fun v w' he hv => by rw [hk]; exact rwide_v v _ _ w' hv (by simp) (by simp only [List.length_append, HRL.out, HKL.out]; have := HML.out; omega) (HGK.out.ext (HE.out.trans he)) (HGO.out.ext (HE.out.trans he)))
  clear hk
  go_upto_region 9 with (fail)
  try simp only [Act.put, nrm]
  go_cut [13] from 41 to 45 (fun vq wq => ∃ g', vq = .pointer (some ⟨g', 0, none⟩) ∧ Blk wq g' (k.map bval) 23 ∧ Ext wl wq)
  case first =>
   have B0 : Ext wl wl.drew := Ext.drew _
   refine wp_region_held_drew (S := fun w' => Ext wl w') (by kernel_rfl) B0 (fun hHeld => ?_)
   refine tke 0 (.slice (some ⟨Rb, 0, none⟩) 32 32) rfl (yi_slice _ _ _ _ (.pointer (some ⟨Rb, 0, none⟩)) (.slice (some ⟨Rb, 0, none⟩) 32 32) none none (by rfl) rfl rfl rfl rfl (fun w => cut_whole Tryz.underlying23 Tryz.sizeOf5 (by omega) _ w)) hHeld ?_
   simp only [Act.put, nrm]
   refine tke 1 (.slice (some ⟨A, 0, none⟩) 32 32) rfl (yi_slice _ _ _ _ (.pointer (some ⟨A, 0, none⟩)) (.slice (some ⟨A, 0, none⟩) 32 32) none none (by rfl) rfl rfl rfl rfl (fun w => cut_whole Tryz.underlying23 Tryz.sizeOf5 (by omega) _ w)) hHeld ?_
   simp only [Act.put, nrm]
   refine tke 2 (.slice am m.length cm) rfl (zcm _ (.slice am m.length cm) (by rfl) rfl rfl) hHeld ?_
   simp only [Act.put, nrm]
   refine wpAnyH_ready (rs := [3, 5]) (by kernel_rfl) (by simp) (AllReadyH.cons rfl (fun K hK => ?_) (AllReadyH.cons rfl (fun K hK => ?_) AllReadyH.nil))
   ·refine zao (by rfl) ?_
    refine zbr (some 44) _ _ _ _ rfl rfl #[.slice (some ⟨Rb, 0, none⟩) 32 32, .slice (some ⟨A, 0, none⟩) 32 32, .slice am m.length cm] iq (.slice none 0 0) Tryz.underlying35 HQ0.out HQ1.out (by rw [HQ2.out]; decide) (by rw [HQ2.out]; decide) (by rw [HQ2.out]; kernel_rfl) ?_
    obtain ⟨m1, hm1⟩ : ∃ wNew, wNew = World.alloc wl.drew (.cells #[.slice (some ⟨Rb, 0, none⟩) 32 32, .slice (some ⟨A, 0, none⟩) 32 32, .slice am m.length cm] 26) := ⟨_, rfl⟩
    rw [← hm1]
    have b1 : Ext wl.drew m1 := by rw [hm1]; exact Ext.alloc _ _
    obtain ⟨g1, hg1⟩ : ∃ gNew, gNew = (wl.drew).heap.size := ⟨_, rfl⟩
    rw [← hg1]
    have r1 : Row1 m1 (.slice (some ⟨g1, 0, none⟩) 3 3) [.slice (some ⟨Rb, 0, none⟩) 32 32, .slice (some ⟨A, 0, none⟩) 32 32, .slice am m.length cm] := by rw [hm1, hg1]; exact Row1.made _ _ _ _ _ _ rfl rfl rfl (by unfold maxLen; omega)
    clear hm1 hg1
    have N1 : Ext wl m1 := B0.trans b1
    refine hK.out _ _ N1 (fun hHeld => ?_)
    clear hK K
    try simp only [Act.put, nrm]
    refine wpAnyH_ready (rs := [4, 5]) (by kernel_rfl) (by simp) (AllReadyH.cons rfl (fun K hK => ?_) (AllReadyH.cons rfl (fun K hK => ?_) AllReadyH.nil))
    ·go_simp
     refine (HWD.out _ _ N1 (rowB3 r1 ((zcc (n := 32) HRb.out (by rw [List.length_map]; exact HRL.out) (by unfold maxLen; omega)).below N1) ((zcc (n := 32) HKB.out (by rw [List.length_map]; exact HKL.out) (by unfold maxLen; omega)).below N1) ((HM9.out).below N1))).mono ?_
     rintro e m2 ⟨rfl, b2⟩
     have r1 := r1.below b2
     have N2 : Ext wl m2 := N1.trans b2
     refine hK.out _ _ N2 (fun hHeld => ?_)
     clear hK K
     try simp only [Act.put, nrm]
     refine rdy 5 rfl fun K hK => ?_
     refine zao (by rfl) ?_
     refine zav (some 13) _ zero32 rfl rfl Tryz.zeroValue23 ?_
     obtain ⟨m3, hm3⟩ : ∃ wNew, wNew = World.alloc m2 (.cells (zero32).toArray 23) := ⟨_, rfl⟩
     rw [← hm3]
     have b3 : Ext m2 m3 := by rw [hm3]; exact Ext.alloc _ _
     obtain ⟨g3, hg3⟩ : ∃ gNew, gNew = (m2).heap.size := ⟨_, rfl⟩
     rw [← hg3]
     have z3 : Blk m3 g3 zero32 23 := by rw [hm3, hg3]; exact Blk.made _ _ _
     have l3 : (wl).heap.size ≤ g3 := by rw [hg3]; exact N2.size
     clear hm3 hg3
     have r1 := r1.below b3
     have N3 : Ext wl m3 := N2.trans b3
     refine hK.out _ _ N3 (fun hHeld => ?_)
     clear hK K
     try simp only [Act.put, nrm]
     refine rdy 6 rfl fun K hK => ?_
     refine zao (by rfl) ?_
     refine zal _ _ _ rfl g3 ((k).map bval) rfl rfl _ _ z3 (by rw [List.length_map, HKKL.out]; rfl) (zae (HKKL.out)) (zaj _) ?_
     intro m4 hb4 hg4
     have N4 : Ext wl m4 := zad N3 hg4 l3
     refine hK.out _ _ N4 (fun hHeld => ?_)
     clear hK K
     try simp only [Act.put, nrm]
     refine dne ?_
     go_wp2_with fail
     go_meet
     exact ⟨_, rfl, hb4, N4⟩
    ·refine zao (by rfl) ?_
     refine zav (some 13) _ zero32 rfl rfl Tryz.zeroValue23 ?_
     obtain ⟨m2, hm2⟩ : ∃ wNew, wNew = World.alloc m1 (.cells (zero32).toArray 23) := ⟨_, rfl⟩
     rw [← hm2]
     have b2 : Ext m1 m2 := by rw [hm2]; exact Ext.alloc _ _
     obtain ⟨g2, hg2⟩ : ∃ gNew, gNew = (m1).heap.size := ⟨_, rfl⟩
     rw [← hg2]
     have z2 : Blk m2 g2 zero32 23 := by rw [hm2, hg2]; exact Blk.made _ _ _
     have l2 : (wl).heap.size ≤ g2 := by rw [hg2]; exact N1.size
     clear hm2 hg2
     have r1 := r1.below b2
     have N2 : Ext wl m2 := N1.trans b2
     refine hK.out _ _ N2 (fun hHeld => ?_)
     clear hK K
     try simp only [Act.put, nrm]
     refine rdy 4 rfl fun K hK => ?_
     go_simp
     refine (HWD.out _ _ N2 (rowB3 r1 ((zcc (n := 32) HRb.out (by rw [List.length_map]; exact HRL.out) (by unfold maxLen; omega)).below N2) ((zcc (n := 32) HKB.out (by rw [List.length_map]; exact HKL.out) (by unfold maxLen; omega)).below N2) ((HM9.out).below N2))).mono ?_
     rintro e m3 ⟨rfl, b3⟩
     have r1 := r1.below b3
     have z2 := z2.below b3
     have N3 : Ext wl m3 := N2.trans b3
     refine hK.out _ _ N3 (fun hHeld => ?_)
     clear hK K
     try simp only [Act.put, nrm]
     refine rdy 6 rfl fun K hK => ?_
     refine zao (by rfl) ?_
     refine zal _ _ _ rfl g2 ((k).map bval) rfl rfl _ _ z2 (by rw [List.length_map, HKKL.out]; rfl) (zae (HKKL.out)) (zaj _) ?_
     intro m4 hb4 hg4
     have N4 : Ext wl m4 := zad N3 hg4 l2
     refine hK.out _ _ N4 (fun hHeld => ?_)
     clear hK K
     try simp only [Act.put, nrm]
     refine dne ?_
     go_wp2_with fail
     go_meet
     exact ⟨_, rfl, hb4, N4⟩
   ·refine zao (by rfl) ?_
    refine zav (some 13) _ zero32 rfl rfl Tryz.zeroValue23 ?_
    obtain ⟨m1, hm1⟩ : ∃ wNew, wNew = World.alloc wl.drew (.cells (zero32).toArray 23) := ⟨_, rfl⟩
    rw [← hm1]
    have b1 : Ext wl.drew m1 := by rw [hm1]; exact Ext.alloc _ _
    obtain ⟨g1, hg1⟩ : ∃ gNew, gNew = (wl.drew).heap.size := ⟨_, rfl⟩
    rw [← hg1]
    have z1 : Blk m1 g1 zero32 23 := by rw [hm1, hg1]; exact Blk.made _ _ _
    have l1 : (wl).heap.size ≤ g1 := by rw [hg1]; exact B0.size
    clear hm1 hg1
    have N1 : Ext wl m1 := B0.trans b1
    refine hK.out _ _ N1 (fun hHeld => ?_)
    clear hK K
    try simp only [Act.put, nrm]
    refine rdy 3 rfl fun K hK => ?_
    refine zao (by rfl) ?_
    refine zbr (some 44) _ _ _ _ rfl rfl #[.slice (some ⟨Rb, 0, none⟩) 32 32, .slice (some ⟨A, 0, none⟩) 32 32, .slice am m.length cm] iq (.slice none 0 0) Tryz.underlying35 HQ0.out HQ1.out (by rw [HQ2.out]; decide) (by rw [HQ2.out]; decide) (by rw [HQ2.out]; kernel_rfl) ?_
    obtain ⟨m2, hm2⟩ : ∃ wNew, wNew = World.alloc m1 (.cells #[.slice (some ⟨Rb, 0, none⟩) 32 32, .slice (some ⟨A, 0, none⟩) 32 32, .slice am m.length cm] 26) := ⟨_, rfl⟩
    rw [← hm2]
    have b2 : Ext m1 m2 := by rw [hm2]; exact Ext.alloc _ _
    obtain ⟨g2, hg2⟩ : ∃ gNew, gNew = (m1).heap.size := ⟨_, rfl⟩
    rw [← hg2]
    have z1 := z1.below b2
    have r2 : Row1 m2 (.slice (some ⟨g2, 0, none⟩) 3 3) [.slice (some ⟨Rb, 0, none⟩) 32 32, .slice (some ⟨A, 0, none⟩) 32 32, .slice am m.length cm] := by rw [hm2, hg2]; exact Row1.made _ _ _ _ _ _ rfl rfl rfl (by unfold maxLen; omega)
    clear hm2 hg2
    have N2 : Ext wl m2 := N1.trans b2
    refine hK.out _ _ N2 (fun hHeld => ?_)
    clear hK K
    try simp only [Act.put, nrm]
    refine rdy 4 rfl fun K hK => ?_
    go_simp
    refine (HWD.out _ _ N2 (rowB3 r2 ((zcc (n := 32) HRb.out (by rw [List.length_map]; exact HRL.out) (by unfold maxLen; omega)).below N2) ((zcc (n := 32) HKB.out (by rw [List.length_map]; exact HKL.out) (by unfold maxLen; omega)).below N2) ((HM9.out).below N2))).mono ?_
    rintro e m3 ⟨rfl, b3⟩
    have r2 := r2.below b3
    have z1 := z1.below b3
    have N3 : Ext wl m3 := N2.trans b3
    refine hK.out _ _ N3 (fun hHeld => ?_)
    clear hK K
    try simp only [Act.put, nrm]
    refine rdy 6 rfl fun K hK => ?_
    refine zao (by rfl) ?_
    refine zal _ _ _ rfl g1 ((k).map bval) rfl rfl _ _ z1 (by rw [List.length_map, HKKL.out]; rfl) (zae (HKKL.out)) (zaj _) ?_
    intro m4 hb4 hg4
    have N4 : Ext wl m4 := zad N3 hg4 l1
    refine hK.out _ _ N4 (fun hHeld => ?_)
    clear hK K
    try simp only [Act.put, nrm]
    refine dne ?_
    go_wp2_with fail
    go_meet
    exact ⟨_, rfl, hb4, N4⟩
  case rest =>
   obtain ⟨Kb, rfl, hKb, hX⟩ := hcut
   have HKb := Lib.hid hKb
   have HRb := Lib.hid (zaa HRb.out hX)
   have HSb := Lib.hid (zaa HSb.out hX)
   have HTp := Lib.hid (zaa HTp.out hX)
   have HTq := Lib.hid (zaa HTq.out hX)
   have HE := Lib.hid (HE.out.trans hX)
   clear hKb hX HKB HM9
   generalize wc = wm at *
   obtain ⟨sp, hsp, isp⟩ := HPT1.out Q HQ.out
   obtain ⟨sq, hsq, isq⟩ := HPT2.out R HRR.out
   have HSP := Lib.hid hsp
   have HSQ := Lib.hid hsq
   have HS1 := Lib.hid (erun_full (Pt.es_is bP) (m := 256) (n := leN s) (by have := leN_lt s; rw [HSL.out] at this; exact Nat.lt_of_lt_of_eq this (by decide +kernel)))
   have HS2 := Lib.hid (erun_full isp (m := 256) (n := leN k) (by have := leN_lt k; rw [HKKL.out] at this; exact Nat.lt_of_lt_of_eq this (by decide +kernel)))
   have HS3 := Lib.hid (isq.sum HS2.out)
   clear hsp hsq isp isq
   have HVE : Hid (edVer key g m ↔ pmul (leN s) bP = padd R (pmul (leN k) Q)) := Lib.hid (by
    rw [edVer_of HQ.out (by rw [HRR.out, HRE.out]), ← HSE.out, ← HRE.out, ← HKE.out, ← HLB.out]
    exact ⟨fun h => h.2, fun h => ⟨rfl, h⟩⟩)
   by_cases heq : pmul (leN s) bP = padd R (pmul (leN k) Q)
   ·have HV : Hid (verB key g m = true) := Lib.hid (verB_true (HVE.out.2 heq))
    have HEQ : Hid (encB (pmul (leN s) bP) = encB (padd R (pmul (leN k) Q))) := Lib.hid (by rw [heq])
    clear heq
    go_upto_region 10 with (fail)
    have B0 : Ext wm wm.drew := Ext.drew _
    refine wp_region_held_drew (S := fun w' => Ext wm w') (by kernel_rfl) B0 (fun hHeld => ?_)
    refine tke 1 (.agg ((s).map bval).toArray) rfl (yieldsIf_load_mid (by rfl) _ _ rfl Sb 0 rfl _ _ (fun w h => zas HSb.out h) Tryz.underlying23 rfl (zae HSL.out)) hHeld ?_
    simp only [Act.put, nrm]
    refine tke 4 (.agg cs2.toArray) rfl (yieldsIf_load_mid (by rfl) _ _ rfl Tq 0 rfl _ _ (fun w h => zas HTq.out h) Tryz.underlying48 rfl HI2.out) hHeld ?_
    simp only [Act.put, nrm]
    refine tke 5 (.agg cs1.toArray) rfl (yieldsIf_load_mid (by rfl) _ _ rfl Tp 0 rfl _ _ (fun w h => zas HTp.out h) Tryz.underlying48 rfl HI1.out) hHeld ?_
    simp only [Act.put, nrm]
    refine tke 6 (.agg ((k).map bval).toArray) rfl (yieldsIf_load_mid (by rfl) _ _ rfl Kb 0 rfl _ _ (fun w h => zas HKb.out h) Tryz.underlying23 rfl (zae HKKL.out)) hHeld ?_
    simp only [Act.put, nrm]
    refine rdy 0 rfl fun K hK => ?_
    go_simp
    refine (rbase_f _ (HGX.out.ext (HE.out.trans B0)) (HGY.out.ext (HE.out.trans B0))).mono ?_
    rintro e m1 ⟨v1, rfl, e1, b1⟩
    obtain ⟨a1, c1, d1, g1, hz1, z1⟩ := e1
    subst hz1
    have N1 : Ext wm m1 := B0.trans b1
    refine hK.out _ _ N1 (fun hHeld => ?_)
    clear hK K
    try simp only [Act.put, nrm]
    refine rdy 2 rfl fun K hK => ?_
    go_simp
    refine (rmany_f _ bP.es s _ (⟨_, _, _, _, rfl, z1⟩ : PtV _ (bP.es)) HSL.out (HGD.out.ext (HE.out.trans N1))).mono ?_
    rintro e m2 ⟨v2, rfl, e2, b2⟩
    obtain ⟨a2, c2, d2, g2, hz2, z2⟩ := e2
    subst hz2
    have N2 : Ext wm m2 := N1.trans b2
    refine hK.out _ _ N2 (fun hHeld => ?_)
    clear hK K
    try simp only [Act.put, nrm]
    refine rdy 3 rfl fun K hK => ?_
    go_simp
    refine (zdx _ _ (pmul (leN s) bP) _ (⟨_, _, _, _, rfl, z2⟩ : PtV _ (erun 256 bP.es (leN s) 256)) HS1.out).mono ?_
    rintro e m3 ⟨rfl, b3⟩
    have N3 : Ext wm m3 := N2.trans b3
    refine hK.out _ _ N3 (fun hHeld => ?_)
    clear hK K
    try simp only [Act.put, nrm]
    refine rdy 7 rfl fun K hK => ?_
    go_simp
    refine (rmany_f _ sp k _ HSP.out HKKL.out (HGD.out.ext (HE.out.trans N3))).mono ?_
    rintro e m4 ⟨v4, rfl, e4, b4⟩
    obtain ⟨a4, c4, d4, g4, hz4, z4⟩ := e4
    subst hz4
    have N4 : Ext wm m4 := N3.trans b4
    refine hK.out _ _ N4 (fun hHeld => ?_)
    clear hK K
    try simp only [Act.put, nrm]
    refine rdy 8 rfl fun K hK => ?_
    go_simp
    refine (rsum_f _ _ sq (erun 256 sp (leN k) 256) _ HSQ.out (⟨_, _, _, _, rfl, z4⟩ : PtV _ (erun 256 sp (leN k) 256)) (HGD.out.ext (HE.out.trans N4))).mono ?_
    rintro e m5 ⟨v5, rfl, e5, b5⟩
    obtain ⟨a5, c5, d5, g5, hz5, z5⟩ := e5
    subst hz5
    have N5 : Ext wm m5 := N4.trans b5
    refine hK.out _ _ N5 (fun hHeld => ?_)
    clear hK K
    try simp only [Act.put, nrm]
    refine rdy 9 rfl fun K hK => ?_
    go_simp
    refine (zdx _ _ (padd R (pmul (leN k) Q)) _ (⟨_, _, _, _, rfl, z5⟩ : PtV _ (sq.sum (erun 256 sp (leN k) 256))) HS3.out).mono ?_
    rintro e m6 ⟨rfl, b6⟩
    have N6 : Ext wm m6 := N5.trans b6
    refine hK.out _ _ N6 (fun hHeld => ?_)
    clear hK K
    try simp only [Act.put, nrm]
    refine tke 10 (.bool true) rfl (yi_eql _ _ _ _ _ 32 _ (encB (pmul (leN s) bP)) (encB (padd R (pmul (leN k) Q))) true (by rfl) rfl (decide_eq_true (HEQ.out)) Tryz.underlying23 Tryz.underlying5 zcl zcb zca rfl rfl ((zbt _)) ((zbt _))) hHeld ?_
    simp only [Act.put, nrm]
    refine rdy 11 rfl fun K hK => ?_
    go_simp
    refine hK.out _ _ N6 (fun hHeld => ?_)
    clear hK K
    try simp only [Act.put, nrm]
    refine dne ?_
    go_wp2_with fail
    go_ret
    exact ⟨by rw [HV.out]; rfl, HE.out.trans N6⟩
   ·have HV : Hid (verB key g m = false) := Lib.hid (zeo (fun h => heq (HVE.out.1 h)))
    have HEQ : Hid (¬ encB (pmul (leN s) bP) = encB (padd R (pmul (leN k) Q))) := Lib.hid (fun h => heq (encB_inj h))
    clear heq
    go_upto_region 10 with (fail)
    have B0 : Ext wm wm.drew := Ext.drew _
    refine wp_region_held_drew (S := fun w' => Ext wm w') (by kernel_rfl) B0 (fun hHeld => ?_)
    refine tke 1 (.agg ((s).map bval).toArray) rfl (yieldsIf_load_mid (by rfl) _ _ rfl Sb 0 rfl _ _ (fun w h => zas HSb.out h) Tryz.underlying23 rfl (zae HSL.out)) hHeld ?_
    simp only [Act.put, nrm]
    refine tke 4 (.agg cs2.toArray) rfl (yieldsIf_load_mid (by rfl) _ _ rfl Tq 0 rfl _ _ (fun w h => zas HTq.out h) Tryz.underlying48 rfl HI2.out) hHeld ?_
    simp only [Act.put, nrm]
    refine tke 5 (.agg cs1.toArray) rfl (yieldsIf_load_mid (by rfl) _ _ rfl Tp 0 rfl _ _ (fun w h => zas HTp.out h) Tryz.underlying48 rfl HI1.out) hHeld ?_
    simp only [Act.put, nrm]
    refine tke 6 (.agg ((k).map bval).toArray) rfl (yieldsIf_load_mid (by rfl) _ _ rfl Kb 0 rfl _ _ (fun w h => zas HKb.out h) Tryz.underlying23 rfl (zae HKKL.out)) hHeld ?_
    simp only [Act.put, nrm]
    refine rdy 0 rfl fun K hK => ?_
    go_simp
    refine (rbase_f _ (HGX.out.ext (HE.out.trans B0)) (HGY.out.ext (HE.out.trans B0))).mono ?_
    rintro e m1 ⟨v1, rfl, e1, b1⟩
    obtain ⟨a1, c1, d1, g1, hz1, z1⟩ := e1
    subst hz1
    have N1 : Ext wm m1 := B0.trans b1
    refine hK.out _ _ N1 (fun hHeld => ?_)
    clear hK K
    try simp only [Act.put, nrm]
    refine rdy 2 rfl fun K hK => ?_
    go_simp
    refine (rmany_f _ bP.es s _ (⟨_, _, _, _, rfl, z1⟩ : PtV _ (bP.es)) HSL.out (HGD.out.ext (HE.out.trans N1))).mono ?_
    rintro e m2 ⟨v2, rfl, e2, b2⟩
    obtain ⟨a2, c2, d2, g2, hz2, z2⟩ := e2
    subst hz2
    have N2 : Ext wm m2 := N1.trans b2
    refine hK.out _ _ N2 (fun hHeld => ?_)
    clear hK K
    try simp only [Act.put, nrm]
    refine rdy 3 rfl fun K hK => ?_
    go_simp
    refine (zdx _ _ (pmul (leN s) bP) _ (⟨_, _, _, _, rfl, z2⟩ : PtV _ (erun 256 bP.es (leN s) 256)) HS1.out).mono ?_
    rintro e m3 ⟨rfl, b3⟩
    have N3 : Ext wm m3 := N2.trans b3
    refine hK.out _ _ N3 (fun hHeld => ?_)
    clear hK K
    try simp only [Act.put, nrm]
    refine rdy 7 rfl fun K hK => ?_
    go_simp
    refine (rmany_f _ sp k _ HSP.out HKKL.out (HGD.out.ext (HE.out.trans N3))).mono ?_
    rintro e m4 ⟨v4, rfl, e4, b4⟩
    obtain ⟨a4, c4, d4, g4, hz4, z4⟩ := e4
    subst hz4
    have N4 : Ext wm m4 := N3.trans b4
    refine hK.out _ _ N4 (fun hHeld => ?_)
    clear hK K
    try simp only [Act.put, nrm]
    refine rdy 8 rfl fun K hK => ?_
    go_simp
    refine (rsum_f _ _ sq (erun 256 sp (leN k) 256) _ HSQ.out (⟨_, _, _, _, rfl, z4⟩ : PtV _ (erun 256 sp (leN k) 256)) (HGD.out.ext (HE.out.trans N4))).mono ?_
    rintro e m5 ⟨v5, rfl, e5, b5⟩
    obtain ⟨a5, c5, d5, g5, hz5, z5⟩ := e5
    subst hz5
    have N5 : Ext wm m5 := N4.trans b5
    refine hK.out _ _ N5 (fun hHeld => ?_)
    clear hK K
    try simp only [Act.put, nrm]
    refine rdy 9 rfl fun K hK => ?_
    go_simp
    refine (zdx _ _ (padd R (pmul (leN k) Q)) _ (⟨_, _, _, _, rfl, z5⟩ : PtV _ (sq.sum (erun 256 sp (leN k) 256))) HS3.out).mono ?_
    rintro e m6 ⟨rfl, b6⟩
    have N6 : Ext wm m6 := N5.trans b6
    refine hK.out _ _ N6 (fun hHeld => ?_)
    clear hK K
    try simp only [Act.put, nrm]
    refine tke 10 (.bool false) rfl (yi_eql _ _ _ _ _ 32 _ (encB (pmul (leN s) bP)) (encB (padd R (pmul (leN k) Q))) false (by rfl) rfl (decide_eq_false (HEQ.out)) Tryz.underlying23 Tryz.underlying5 zcl zcb zca rfl rfl ((zbt _)) ((zbt _))) hHeld ?_
    simp only [Act.put, nrm]
    refine rdy 11 rfl fun K hK => ?_
    go_simp
    refine hK.out _ _ N6 (fun hHeld => ?_)
    clear hK K
    try simp only [Act.put, nrm]
    refine dne ?_
    go_wp2_with fail
    go_ret
    exact ⟨by rw [HV.out]; rfl, HE.out.trans N6⟩
end Go.Proofs.YtckggbkoabmjiaaGreatDoor
