/- Lemmas. -/
import Derived.Test.YthafgicndklgfaaGreatDoorQy15
import Derived.Test.YthafgicndklgfaaGreatDoorQy17
namespace Go.Proofs.YthafgicndklgfaaGreatDoor
set_option linter.unusedVariables false
set_option maxRecDepth 100000
set_option maxHeartbeats 32000000
set_option linter.unusedSimpArgs false
open Go.RowKit
theorem rverify_f (key g m : List UInt8) (bv : Value) (w : World) (hk : key.length = 32) (hg : g.length = 64) (hb : Row1 w bv (m.map bval)) (hm : m.length ≤ 1000000000000) (hK : GlobK5 w) (hO : GlobO w) (hD : GlobD w) (hG : Glob w) (hX : GlobX w) (hY : GlobY w) :
  Calls Tryz.prog 38 #[.agg (key.map bval).toArray, .agg (g.map bval).toArray, bv] w fun e w' => e = .returned (.bool (verB key g m)) ∧ Below w.heap.size w w' := by
 obtain ⟨iq, hq0, hq1, hq2⟩ := info_two (P := Tryz.prog) (t := 46) (z := .slice none 0 0) (n := 1) (by kernel_rfl)
 have HQ0 := jh hq0
 have HQ1 := jh hq1
 have HQ2 := jh hq2
 obtain ⟨am, cm, hbv, _⟩ := id hb
 rw [q101] at hbv
 subst hbv
 have HM0 := jh hb
 have HML := jh hm
 have HKL := jh hk
 have HGL := jh hg
 have HGK := jh hK
 have HGO := jh hO
 have HGD := jh hD
 have HGR := jh hG
 have HGX := jh hX
 have HGY := jh hY
 have HB := jh (boxes2 w (key.map bval) (g.map bval) 23 26)
 obtain ⟨r, hr⟩ : ∃ r, r = g.take 32 := ⟨_, rfl⟩
 obtain ⟨s, hs⟩ : ∃ s, s = g.drop 32 := ⟨_, rfl⟩
 have HRL : Hid (r.length = 32) := jh (by rw [hr, q112, hg]; rfl)
 have HSL : Hid (s.length = 32) := jh (by rw [hs, q139, hg])
 have HRL0 : Hid ((g.take 32).length = 32) := jh (by rw [q112, hg]; rfl)
 have HSL0 : Hid ((g.drop 32).length = 32) := jh (by rw [q139, hg])
 have HRE := jh hr
 have HSE := jh hs
 clear hq0 hq1 hq2 hk hg hb hm hK hO hD hG hX hY hr hs
 go_enter Tryz.func38, Tryz.ntmps38
 go_upto_region 1 with (fail)
 obtain ⟨H1, H2, HE⟩ := HB.out
 change Code.wp _ _ _ _ ((w.alloc (.cells (key.map bval).toArray 23)).alloc (.cells (g.map bval).toArray 26))
 generalize (w.alloc (.cells (key.map bval).toArray 23)).alloc (.cells (g.map bval).toArray 26) = wa at *
 obtain ⟨A, hA⟩ : ∃ A, A = w.heap.size := ⟨_, rfl⟩
 have HOA : Hid (w.heap.size ≤ A) := jh (by omega)
 rw [← hA] at H1 H2 ⊢
 have HKB := jh H1
 have HG := jh H2
 have HE : Hid (Ext w wa) := jh HE
 clear hA HB H1 H2
 have HXA := Ext.alloc wa (.cells (ints .u8 (List.replicate 32 0)).toArray 23)
 obtain ⟨Rb, hT⟩ : ∃ T, T = wa.heap.size := ⟨_, rfl⟩
 have HORb : Hid (A + 1 < Rb) := jh (by rw [hT]; exact HG.out.lt)
 have HRb : Hid (Blk (wa.alloc (.cells (ints .u8 (List.replicate 32 0)).toArray 23)) Rb ((List.replicate 32 (0 : UInt8)).map bval) 23) := jh (by rw [hT]; exact Blk.made wa (ints .u8 (List.replicate 32 0)) 23)
 have HKB := xb HKB HXA
 have HG := xb HG HXA
 have HE := xt HE HXA
 have HOA := jh (And.intro HOA.out HORb.out)
 clear HXA
 go_upto_region 2 with (fail)
 change Code.wp _ _ _ _ (wa.alloc (.cells (ints .u8 (List.replicate 32 0)).toArray 23))
 rw [← hT]
 clear hT
 generalize wa.alloc (.cells (ints .u8 (List.replicate 32 0)).toArray 23) = wb at *
 have HXA := Ext.alloc wb (.cells (ints .u8 (List.replicate 32 0)).toArray 23)
 obtain ⟨Sb, hT⟩ : ∃ T, T = wb.heap.size := ⟨_, rfl⟩
 have HOSb : Hid (Rb < Sb) := jh (by rw [hT]; exact HRb.out.lt)
 have HSb : Hid (Blk (wb.alloc (.cells (ints .u8 (List.replicate 32 0)).toArray 23)) Sb ((List.replicate 32 (0 : UInt8)).map bval) 23) := jh (by rw [hT]; exact Blk.made wb (ints .u8 (List.replicate 32 0)) 23)
 have HKB := xb HKB HXA
 have HG := xb HG HXA
 have HRb := xb HRb HXA
 have HE := xt HE HXA
 have HOA := jh (And.intro HOA.out HOSb.out)
 clear HXA
 go_upto_region 3 with (fail)
 change Code.wp _ _ _ _ (wb.alloc (.cells (ints .u8 (List.replicate 32 0)).toArray 23))
 rw [← hT]
 clear hT
 generalize wb.alloc (.cells (ints .u8 (List.replicate 32 0)).toArray 23) = wc at *
 refine swf 2 1 2 ?_
 refine zaw (.slice (some ⟨Rb, 0, none⟩) 32 32) (by rfl) (fun w hw => by go_simp) ?_
 simp only [nm]
 refine zaw (.slice (some ⟨A + 1, 0, none⟩) 32 64) (by rfl) (fun w hw => by go_simp) ?_
 simp only [nm]
 refine zao (zeh (k := 2) rfl (by kernel_rfl) (by kernel_rfl) (by kernel_rfl) rfl (fun wy hwy => ?_))
 have HKB := xb HKB hwy
 have HG := xb HG hwy
 have HSb := xb HSb hwy
 have HRb := xb HRb hwy
 have HE := xt HE hwy
 clear hwy
 refine wp_copy_blk _ _ 46 46 rfl 5 q107 u8_oneV _ _ _ _ _ _ rfl rfl Rb 0 _ _ HRb.out ((g.take 32).map bval) (by rw [q101, HRL0.out]; rfl) (fun _ => ⟨rfl, ⟨A + 1, 0, none⟩, rfl, fun j v hj => ?_⟩) (by rw [q101, HRL0.out]; simp) (zaf _) ?_
 ·have hj2 : j < 32 := by
   rcases q116 j 32 with h' | h'
   ·exact h'
   ·rw [List.getElem?_eq_none (by rw [q101, HRL0.out]; omega)] at hj; cases hj
  rw [WideShapes.add_plain, HG.out.cell, ← hj, List.getElem?_map, List.getElem?_map]
  congr 1
  rw [q125, List.getElem?_take, if_pos hj2]
 intro wz hbz hgz
 have e32 : splice ((List.replicate 32 (0 : UInt8)).map bval) 0 ((g.take 32).map bval) = (g.take 32).map bval := by
  rw [splice_bytes, HRL0.out]
  simp
 rw [e32] at hbz
 have HKB := jh (HKB.out.grown hgz (by have := HOA.out; simp; omega))
 have HG := jh (HG.out.grown hgz (by have := HOA.out; simp; omega))
 have HSb := jh (HSb.out.grown hgz (by have := HOA.out; simp; omega))
 have HE := jh (zab HE.out hgz (by have := HOA.out; omega))
 have HRb := jh hbz
 clear hbz hgz e32
 generalize goInt ((g.take 32).map bval).length = gl at *
 simp only [nm]
 go_upto_region 4 with (fail)
 refine swf 2 1 2 ?_
 refine zaw (.slice (some ⟨Sb, 0, none⟩) 32 32) (by rfl) (fun w hw => by go_simp) ?_
 simp only [nm]
 refine zaw (.slice (some ⟨A + 1, 32, none⟩) 32 32) (by rfl) (fun w hw => by go_simp) ?_
 simp only [nm]
 refine zao (zeh (k := 2) rfl (by kernel_rfl) (by kernel_rfl) (by kernel_rfl) rfl (fun wy hwy => ?_))
 have HKB := xb HKB hwy
 have HG := xb HG hwy
 have HRb := xb HRb hwy
 have HSb := xb HSb hwy
 have HE := xt HE hwy
 clear hwy
 refine wp_copy_blk _ _ 46 46 rfl 5 q107 u8_oneV _ _ _ _ _ _ rfl rfl Sb 0 _ _ HSb.out ((g.drop 32).map bval) (by rw [q101, HSL0.out]; rfl) (fun _ => ⟨rfl, ⟨A + 1, 32, none⟩, rfl, fun j v hj => ?_⟩) (by rw [q101, HSL0.out]; simp) (zaf _) ?_
 ·have hj2 : j < 32 := by
   rcases q116 j 32 with h' | h'
   ·exact h'
   ·rw [List.getElem?_eq_none (by rw [q101, HSL0.out]; omega)] at hj; cases hj
  rw [WideShapes.add_plain, HG.out.cell, ← hj, List.getElem?_map, List.getElem?_map]
  congr 1
  rw [List.getElem?_drop]
 intro wz hbz hgz
 have e32 : splice ((List.replicate 32 (0 : UInt8)).map bval) 0 ((g.drop 32).map bval) = (g.drop 32).map bval := by
  rw [splice_bytes, HSL0.out]
  simp
 rw [e32] at hbz
 have HKB := jh (HKB.out.grown hgz (by have := HOA.out; simp; omega))
 have HG := jh (HG.out.grown hgz (by have := HOA.out; simp; omega))
 have HRb := jh (HRb.out.grown hgz (by have := HOA.out; simp; omega))
 have HE := jh (zab HE.out hgz (by have := HOA.out; omega))
 have HSb := jh hbz
 clear hbz hgz e32
 generalize goInt ((g.drop 32).map bval).length = gl at *
 simp only [nm]
 rw [← HRE.out] at HRb
 rw [← HSE.out] at HSb
 clear HG HRL0 HSL0
 go_wp2_with (refine slb A HKB.out q100 (zac HKL.out) ?_)
 refine (rread_f key _ HKL.out (HGD.out.ext HE.out) (HGR.out.ext HE.out)).mono ?_
 rintro e wr1 ⟨cs1, rfl, hl, ho, hP1, hb⟩
 have HKB := xb HKB hb
 have HRb := xb HRb hb
 have HSb := xb HSb hb
 have HE := xt HE hb
 have HPT1 := jh hP1
 have HCL := jh hl
 have HCO := jh ho
 clear hl ho hP1 hb
 obtain ⟨mk, hmk⟩ : ∃ z, z = mayB key := ⟨_, rfl⟩
 rw [← hmk]
 have Hmk := jh hmk
 clear hmk
 have HZ := jh (Blk.made wr1 (ints .i64 (List.replicate 64 0)) 70)
 have HEA := jh (Ext.alloc wr1 (.cells (ints .i64 (List.replicate 64 0)).toArray 70))
 have HL : Hid (cs1.length = (ints .i64 (List.replicate 64 0)).length) := jh (by rw [HCL.out, zaa]; rfl)
 have HI1 : Hid ((Tryz.prog.info? 70).map (·.size) = some cs1.length) := jh (by rw [HCL.out]; kernel_rfl)
 go_upto_region 6 with (refine ssb wr1.heap.size cs1 HZ.out HL.out HI1.out HCO.out ?_; intro ws1 hb2 hg2)
 have HX := jh (zab HEA.out hg2 (q102 _))
 generalize wr1.heap.size = Tp at *
 have HTp := jh hb2
 have HKB := xb HKB HX.out
 have HRb := xb HRb HX.out
 have HSb := xb HSb HX.out
 have HE := xt HE HX.out
 clear hb2 hg2 HZ HEA HX HL HCL HCO
 go_wp2_with (refine slb Rb HRb.out q100 (zac HRL.out) ?_)
 refine (rread_f r _ HRL.out (HGD.out.ext HE.out) (HGR.out.ext HE.out)).mono ?_
 rintro e wr2 ⟨cs2, rfl, hl, ho, hP2, hb⟩
 have HKB := xb HKB hb
 have HRb := xb HRb hb
 have HSb := xb HSb hb
 have HTp := xb HTp hb
 have HE := xt HE hb
 have HPT2 := jh hP2
 have HCL := jh hl
 have HCO := jh ho
 clear hl ho hP2 hb
 obtain ⟨mr, hmr⟩ : ∃ z, z = mayB r := ⟨_, rfl⟩
 rw [← hmr]
 have Hmr := jh hmr
 clear hmr
 have HZ := jh (Blk.made wr2 (ints .i64 (List.replicate 64 0)) 70)
 have HEA := jh (Ext.alloc wr2 (.cells (ints .i64 (List.replicate 64 0)).toArray 70))
 have HL : Hid (cs2.length = (ints .i64 (List.replicate 64 0)).length) := jh (by rw [HCL.out, zaa]; rfl)
 have HI2 : Hid ((Tryz.prog.info? 70).map (·.size) = some cs2.length) := jh (by rw [HCL.out]; kernel_rfl)
 go_upto_region 7 with (refine ssb wr2.heap.size cs2 HZ.out HL.out HI2.out HCO.out ?_; intro ws2 hb2 hg2)
 have HX := jh (zab HEA.out hg2 (q102 _))
 generalize wr2.heap.size = Tq at *
 have HTq := jh hb2
 have HKB := xb HKB HX.out
 have HRb := xb HRb HX.out
 have HSb := xb HSb HX.out
 have HTp := xb HTp HX.out
 have HE := xt HE HX.out
 clear hb2 hg2 HZ HEA HX HL HCL HCO
 by_cases hmk : edMay key
 case neg =>
  obtain rfl : mk = false := by rw [Hmk.out, zew hmk]
  have HV : Hid (verB key g m = false) := jh (zeu (fun h => hmk (by obtain ⟨_, A, R, hA, _⟩ := h; exact ⟨A, hA⟩)))
  go_wp2_with fail
  go_ret
  exact ⟨by rw [HV.out]; rfl, HE.out⟩
 obtain rfl : mk = true := by rw [Hmk.out, zef hmk]
 by_cases hmr : edMay r
 case neg =>
  obtain rfl : mr = false := by rw [Hmr.out, zew hmr]
  have HV : Hid (verB key g m = false) := jh (zeu (fun h => hmr (by obtain ⟨_, A, R, _, hR, _⟩ := h; exact ⟨R, by rw [hR, HRE.out]⟩)))
  go_wp2_with fail
  go_ret
  exact ⟨by rw [HV.out]; rfl, HE.out⟩
 obtain rfl : mr = true := by rw [Hmr.out, zef hmr]
 obtain ⟨Q, hQ⟩ := hmk
 obtain ⟨R, hR⟩ := hmr
 have HQ := jh hQ
 have HRR := jh hR
 clear hQ hR
 obtain ⟨lb, hlb⟩ : ∃ lb, lb = lessB s := ⟨_, rfl⟩
 have HLS : Hid (∀ w, GlobO w → Calls Tryz.prog 73 #[.agg (s.map bval).toArray] w fun e w' => e = .returned (.bool lb) ∧ Below w.heap.size w w') := jh (fun w h => by rw [hlb]; exact rLess_num s w HSL.out h)
 have HLB := jh hlb
 clear hlb
 go_wp2_with (refine zbo (by rfl) _ _ rfl Sb rfl _ _ _ _ HSb.out q100 (zac HSL.out) ?_)
 refine (HLS.out _ (HGO.out.ext HE.out)).mono ?_
 rintro e wl ⟨rfl, hb⟩
 have HKB := xb HKB hb
 have HRb := xb HRb hb
 have HSb := xb HSb hb
 have HTp := xb HTp hb
 have HTq := xb HTq hb
 have HE := xt HE hb
 clear hb
 cases lb with
 | false =>
  have HV : Hid (verB key g m = false) := jh (zeu (fun h => by unfold edVer at h; rw [← HSE.out, ← HLB.out] at h; exact absurd h.1 (by decide)))
  go_wp2_with fail
  go_ret
  exact ⟨by rw [HV.out]; rfl, HE.out⟩
 | true =>
  have HM9 := jh (HM0.out.below HE.out)
  obtain ⟨k, hk⟩ : ∃ k, k = wideB (r ++ (key ++ m)) := ⟨_, rfl⟩
  have HKKL : Hid (k.length = 32) := jh (by rw [hk]; exact zcd _)
  have HKE := jh hk
  have HWD : Hid (∀ v w', Ext wl w' → RowB w' v [r, key, m] → Calls Tryz.prog 58 #[v] w' fun e w'' => e = .returned (.agg (k.map bval).toArray) ∧ Below w'.heap.size w' w'') := jh (fun v w' he hv => by rw [hk]; exact rwide_v v _ _ w' hv (by simp) (by simp only [q108, HRL.out, HKL.out]; have := HML.out; omega) (HGK.out.ext (HE.out.trans he)) (HGO.out.ext (HE.out.trans he)))
  clear hk
  go_upto_region 9 with (fail)
  try simp only [nm]
  go_cut [13] from 41 to 45 (fun vq wq => ∃ g', vq = .pointer (some ⟨g', 0, none⟩) ∧ Blk wq g' (k.map bval) 23 ∧ Ext wl wq)
  case first =>
   have B0 : Ext wl wl.drew := Ext.drew _
   refine wp_region_held_drew (S := fun w' => Ext wl w') (by kernel_rfl) B0 (fun hW => ?_)
   refine tke 0 (.slice (some ⟨Rb, 0, none⟩) 32 32) rfl (zdy _ _ _ _ (.pointer (some ⟨Rb, 0, none⟩)) (.slice (some ⟨Rb, 0, none⟩) 32 32) none none (by rfl) rfl rfl rfl rfl (fun w => zej q100 q115 (by omega) _ w)) hW ?_
   simp only [nm]
   refine tke 1 (.slice (some ⟨A, 0, none⟩) 32 32) rfl (zdy _ _ _ _ (.pointer (some ⟨A, 0, none⟩)) (.slice (some ⟨A, 0, none⟩) 32 32) none none (by rfl) rfl rfl rfl rfl (fun w => zej q100 q115 (by omega) _ w)) hW ?_
   simp only [nm]
   refine tke 2 (.slice am m.length cm) rfl (zbm _ (.slice am m.length cm) (by rfl) rfl rfl) hW ?_
   simp only [nm]
   refine Fl.go (f := 5) (d := 13) (zs := zero32) (T := 23) (B := (wl).heap.size) ?_ hW
   clear hW
   refine Fl.step 3 rfl rfl rfl rfl rfl q109 (fun _ _ h1 h2 => h1.trans h2) (fun _ h => h.size) (fun z1 u K hz1 hSz hK => ?_)
   have NZ1 : Ext wl z1 := B0.trans hz1
   clear hSz
   refine zbn (by rfl) ?_
   refine zbk (some 44) _ _ _ _ rfl rfl #[.slice (some ⟨Rb, 0, none⟩) 32 32, .slice (some ⟨A, 0, none⟩) 32 32, .slice am m.length cm] iq (.slice none 0 0) q141 HQ0.out HQ1.out (by rw [HQ2.out]; decide) (by rw [HQ2.out]; decide) (by rw [HQ2.out]; kernel_rfl) ?_
   obtain ⟨m1, hm1⟩ : ∃ wNew, wNew = World.alloc z1 (.cells #[.slice (some ⟨Rb, 0, none⟩) 32 32, .slice (some ⟨A, 0, none⟩) 32 32, .slice am m.length cm] 46) := ⟨_, rfl⟩
   rw [← hm1]
   have b1 : Ext z1 m1 := by rw [hm1]; exact Ext.alloc _ _
   obtain ⟨g1, hg1⟩ : ∃ gNew, gNew = (z1).heap.size := ⟨_, rfl⟩
   rw [← hg1]
   have r1 : Row1 m1 (.slice (some ⟨g1, 0, none⟩) 3 3) [.slice (some ⟨Rb, 0, none⟩) 32 32, .slice (some ⟨A, 0, none⟩) 32 32, .slice am m.length cm] := by rw [hm1, hg1]; exact Row1.made _ _ _ _ _ _ rfl rfl rfl (by unfold maxLen; omega)
   clear hm1 hg1
   have N1 : Ext wl m1 := NZ1.trans b1
   refine hK.out (.slice (some ⟨g1, 0, none⟩) 3 3) _ b1 N1 ?_
   clear hK K u
   try simp only [nm]
   refine Fl.step 4 rfl rfl rfl rfl rfl q109 (fun _ _ h1 h2 => h1.trans h2) (fun _ h => h.size) (fun z2 u K hz2 hSz hK => ?_)
   have r1 := r1.below hz2
   have NZ2 : Ext wl z2 := N1.trans hz2
   clear hSz
   go_simp
   refine (HWD.out _ _ NZ2 (rowB3 r1 ((zdi (n := 32) HRb.out (by rw [q101]; exact HRL.out) (by unfold maxLen; omega)).below NZ2) ((zdi (n := 32) HKB.out (by rw [q101]; exact HKL.out) (by unfold maxLen; omega)).below NZ2) ((HM9.out).below NZ2))).mono ?_
   rintro e m2 ⟨rfl, b2⟩
   have r1 := r1.below b2
   have N2 : Ext wl m2 := NZ2.trans b2
   refine hK.out (.agg ((k).map bval).toArray) _ b2 N2 ?_
   clear hK K u
   try simp only [nm]
   refine Fl.last rfl rfl rfl rfl q109 (fun _ _ h1 h2 => h1.trans h2) (fun _ h => h.size) (fun m3 g3 b3 hW l3 z3 => ?_)
   try simp only [nm]
   have r1 := r1.below b3
   have N3 : Ext wl m3 := N2.trans b3
   refine rdy 6 rfl fun K hK => ?_
   refine zbn (by rfl) ?_
   refine zak _ _ _ rfl g3 ((k).map bval) rfl rfl _ _ z3 (by rw [q101, HKKL.out]; rfl) (zac (HKKL.out)) (zaf _) ?_
   intro m4 hb4 hg4
   have N4 : Ext wl m4 := zab N3 hg4 l3
   refine hK.out _ _ N4 (fun hW => ?_)
   clear hK K
   try simp only [nm]
   refine dne ?_
   go_wp2_with fail
   go_meet
   exact ⟨_, rfl, hb4, N4⟩
  case rest =>
   obtain ⟨Kb, rfl, hKb, hX⟩ := hcut
   have HKb := jh hKb
   have HRb := xb HRb hX
   have HSb := xb HSb hX
   have HTp := xb HTp hX
   have HTq := xb HTq hX
   have HE := xt HE hX
   clear hKb hX HKB HM9
   generalize wc = wm at *
   obtain ⟨sp, hsp, isp⟩ := HPT1.out Q HQ.out
   obtain ⟨sq, hsq, isq⟩ := HPT2.out R HRR.out
   have HSP := jh hsp
   have HSQ := jh hsq
   have HS1 := jh (erun_full (Pt.es_is bP) (m := 256) (n := leN s) (by have := leN_lt s; rw [HSL.out] at this; exact Nat.lt_of_lt_of_eq this (by decide +kernel)))
   have HS2 := jh (erun_full isp (m := 256) (n := leN k) (by have := leN_lt k; rw [HKKL.out] at this; exact Nat.lt_of_lt_of_eq this (by decide +kernel)))
   have HS3 := jh (isq.sum HS2.out)
   clear hsp hsq isp isq
   have HVE : Hid (edVer key g m ↔ pmul (leN s) bP = padd R (pmul (leN k) Q)) := jh (by
    rw [edVer_of HQ.out (by rw [HRR.out, HRE.out]), ← HSE.out, ← HRE.out, ← HKE.out, ← HLB.out]
    exact ⟨fun h => h.2, fun h => ⟨rfl, h⟩⟩)
   by_cases heq : pmul (leN s) bP = padd R (pmul (leN k) Q)
   ·have HV : Hid (verB key g m = true) := jh (verB_true (HVE.out.2 heq))
    have HEQ : Hid (encB (pmul (leN s) bP) = encB (padd R (pmul (leN k) Q))) := jh (by rw [heq])
    clear heq
    go_upto_region 10 with (fail)
    have B0 : Ext wm wm.drew := Ext.drew _
    refine wp_region_held_drew (S := fun w' => Ext wm w') (by kernel_rfl) B0 (fun hW => ?_)
    refine tke 1 (.agg ((s).map bval).toArray) rfl (sld Sb 0 (fun w h => zah HSb.out h) q100 (zac HSL.out)) hW ?_
    simp only [nm]
    refine tke 4 (.agg cs2.toArray) rfl (sld Tq 0 (fun w h => zah HTq.out h) q132 HI2.out) hW ?_
    simp only [nm]
    refine tke 5 (.agg cs1.toArray) rfl (sld Tp 0 (fun w h => zah HTp.out h) q132 HI1.out) hW ?_
    simp only [nm]
    refine tke 6 (.agg ((k).map bval).toArray) rfl (sld Kb 0 (fun w h => zah HKb.out h) q100 (zac HKKL.out)) hW ?_
    simp only [nm]
    refine rdy 0 rfl fun K hK => ?_
    go_simp
    refine (rbase_f _ (HGX.out.ext (HE.out.trans B0)) (HGY.out.ext (HE.out.trans B0))).mono ?_
    rintro e m1 ⟨v1, rfl, e1, b1⟩
    obtain ⟨a1, c1, d1, g1, hz1, z1⟩ := e1
    subst hz1
    have N1 : Ext wm m1 := B0.trans b1
    refine hK.out _ _ N1 (fun hW => ?_)
    clear hK K
    try simp only [nm]
    refine rdy 2 rfl fun K hK => ?_
    go_simp
    refine (rmany_f _ bP.es s _ (⟨_, _, _, _, rfl, z1⟩ : PtV _ (bP.es)) HSL.out (HGD.out.ext (HE.out.trans N1))).mono ?_
    rintro e m2 ⟨v2, rfl, e2, b2⟩
    obtain ⟨a2, c2, d2, g2, hz2, z2⟩ := e2
    subst hz2
    have N2 : Ext wm m2 := N1.trans b2
    refine hK.out _ _ N2 (fun hW => ?_)
    clear hK K
    try simp only [nm]
    refine rdy 3 rfl fun K hK => ?_
    go_simp
    refine (rwritten_f _ _ (pmul (leN s) bP) _ (⟨_, _, _, _, rfl, z2⟩ : PtV _ (erun 256 bP.es (leN s) 256)) HS1.out).mono ?_
    rintro e m3 ⟨rfl, b3⟩
    have N3 : Ext wm m3 := N2.trans b3
    refine hK.out _ _ N3 (fun hW => ?_)
    clear hK K
    try simp only [nm]
    refine rdy 7 rfl fun K hK => ?_
    go_simp
    refine (rmany_f _ sp k _ HSP.out HKKL.out (HGD.out.ext (HE.out.trans N3))).mono ?_
    rintro e m4 ⟨v4, rfl, e4, b4⟩
    obtain ⟨a4, c4, d4, g4, hz4, z4⟩ := e4
    subst hz4
    have N4 : Ext wm m4 := N3.trans b4
    refine hK.out _ _ N4 (fun hW => ?_)
    clear hK K
    try simp only [nm]
    refine rdy 8 rfl fun K hK => ?_
    go_simp
    refine (rsum_f _ _ sq (erun 256 sp (leN k) 256) _ HSQ.out (⟨_, _, _, _, rfl, z4⟩ : PtV _ (erun 256 sp (leN k) 256)) (HGD.out.ext (HE.out.trans N4))).mono ?_
    rintro e m5 ⟨v5, rfl, e5, b5⟩
    obtain ⟨a5, c5, d5, g5, hz5, z5⟩ := e5
    subst hz5
    have N5 : Ext wm m5 := N4.trans b5
    refine hK.out _ _ N5 (fun hW => ?_)
    clear hK K
    try simp only [nm]
    refine rdy 9 rfl fun K hK => ?_
    go_simp
    refine (rwritten_f _ _ (padd R (pmul (leN k) Q)) _ (⟨_, _, _, _, rfl, z5⟩ : PtV _ (sq.sum (erun 256 sp (leN k) 256))) HS3.out).mono ?_
    rintro e m6 ⟨rfl, b6⟩
    have N6 : Ext wm m6 := N5.trans b6
    refine hK.out _ _ N6 (fun hW => ?_)
    clear hK K
    try simp only [nm]
    refine tke 10 (.bool true) rfl (yi_eql _ _ _ _ _ 32 _ (encB (pmul (leN s) bP)) (encB (padd R (pmul (leN k) Q))) true (by rfl) rfl (decide_eq_true (HEQ.out)) q100 q111 zch zby zcb rfl rfl ((zbw _)) ((zbw _))) hW ?_
    simp only [nm]
    refine rdy 11 rfl fun K hK => ?_
    go_simp
    refine hK.out _ _ N6 (fun hW => ?_)
    clear hK K
    try simp only [nm]
    refine dne ?_
    go_wp2_with fail
    go_ret
    exact ⟨by rw [HV.out]; rfl, HE.out.trans N6⟩
   ·have HV : Hid (verB key g m = false) := jh (zeu (fun h => heq (HVE.out.1 h)))
    have HEQ : Hid (¬ encB (pmul (leN s) bP) = encB (padd R (pmul (leN k) Q))) := jh (fun h => heq (encB_inj h))
    clear heq
    go_upto_region 10 with (fail)
    have B0 : Ext wm wm.drew := Ext.drew _
    refine wp_region_held_drew (S := fun w' => Ext wm w') (by kernel_rfl) B0 (fun hW => ?_)
    refine tke 1 (.agg ((s).map bval).toArray) rfl (sld Sb 0 (fun w h => zah HSb.out h) q100 (zac HSL.out)) hW ?_
    simp only [nm]
    refine tke 4 (.agg cs2.toArray) rfl (sld Tq 0 (fun w h => zah HTq.out h) q132 HI2.out) hW ?_
    simp only [nm]
    refine tke 5 (.agg cs1.toArray) rfl (sld Tp 0 (fun w h => zah HTp.out h) q132 HI1.out) hW ?_
    simp only [nm]
    refine tke 6 (.agg ((k).map bval).toArray) rfl (sld Kb 0 (fun w h => zah HKb.out h) q100 (zac HKKL.out)) hW ?_
    simp only [nm]
    refine rdy 0 rfl fun K hK => ?_
    go_simp
    refine (rbase_f _ (HGX.out.ext (HE.out.trans B0)) (HGY.out.ext (HE.out.trans B0))).mono ?_
    rintro e m1 ⟨v1, rfl, e1, b1⟩
    obtain ⟨a1, c1, d1, g1, hz1, z1⟩ := e1
    subst hz1
    have N1 : Ext wm m1 := B0.trans b1
    refine hK.out _ _ N1 (fun hW => ?_)
    clear hK K
    try simp only [nm]
    refine rdy 2 rfl fun K hK => ?_
    go_simp
    refine (rmany_f _ bP.es s _ (⟨_, _, _, _, rfl, z1⟩ : PtV _ (bP.es)) HSL.out (HGD.out.ext (HE.out.trans N1))).mono ?_
    rintro e m2 ⟨v2, rfl, e2, b2⟩
    obtain ⟨a2, c2, d2, g2, hz2, z2⟩ := e2
    subst hz2
    have N2 : Ext wm m2 := N1.trans b2
    refine hK.out _ _ N2 (fun hW => ?_)
    clear hK K
    try simp only [nm]
    refine rdy 3 rfl fun K hK => ?_
    go_simp
    refine (rwritten_f _ _ (pmul (leN s) bP) _ (⟨_, _, _, _, rfl, z2⟩ : PtV _ (erun 256 bP.es (leN s) 256)) HS1.out).mono ?_
    rintro e m3 ⟨rfl, b3⟩
    have N3 : Ext wm m3 := N2.trans b3
    refine hK.out _ _ N3 (fun hW => ?_)
    clear hK K
    try simp only [nm]
    refine rdy 7 rfl fun K hK => ?_
    go_simp
    refine (rmany_f _ sp k _ HSP.out HKKL.out (HGD.out.ext (HE.out.trans N3))).mono ?_
    rintro e m4 ⟨v4, rfl, e4, b4⟩
    obtain ⟨a4, c4, d4, g4, hz4, z4⟩ := e4
    subst hz4
    have N4 : Ext wm m4 := N3.trans b4
    refine hK.out _ _ N4 (fun hW => ?_)
    clear hK K
    try simp only [nm]
    refine rdy 8 rfl fun K hK => ?_
    go_simp
    refine (rsum_f _ _ sq (erun 256 sp (leN k) 256) _ HSQ.out (⟨_, _, _, _, rfl, z4⟩ : PtV _ (erun 256 sp (leN k) 256)) (HGD.out.ext (HE.out.trans N4))).mono ?_
    rintro e m5 ⟨v5, rfl, e5, b5⟩
    obtain ⟨a5, c5, d5, g5, hz5, z5⟩ := e5
    subst hz5
    have N5 : Ext wm m5 := N4.trans b5
    refine hK.out _ _ N5 (fun hW => ?_)
    clear hK K
    try simp only [nm]
    refine rdy 9 rfl fun K hK => ?_
    go_simp
    refine (rwritten_f _ _ (padd R (pmul (leN k) Q)) _ (⟨_, _, _, _, rfl, z5⟩ : PtV _ (sq.sum (erun 256 sp (leN k) 256))) HS3.out).mono ?_
    rintro e m6 ⟨rfl, b6⟩
    have N6 : Ext wm m6 := N5.trans b6
    refine hK.out _ _ N6 (fun hW => ?_)
    clear hK K
    try simp only [nm]
    refine tke 10 (.bool false) rfl (yi_eql _ _ _ _ _ 32 _ (encB (pmul (leN s) bP)) (encB (padd R (pmul (leN k) Q))) false (by rfl) rfl (decide_eq_false (HEQ.out)) q100 q111 zch zby zcb rfl rfl ((zbw _)) ((zbw _))) hW ?_
    simp only [nm]
    refine rdy 11 rfl fun K hK => ?_
    go_simp
    refine hK.out _ _ N6 (fun hW => ?_)
    clear hK K
    try simp only [nm]
    refine dne ?_
    go_wp2_with fail
    go_ret
    exact ⟨by rw [HV.out]; rfl, HE.out.trans N6⟩
