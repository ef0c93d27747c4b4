/- Lemmas. -/
import Derived.Test.YthafgicndklgfaaGreatDoorQy14
namespace Go.Proofs.YthafgicndklgfaaGreatDoor
set_option linter.unusedVariables false
set_option maxRecDepth 100000
set_option maxHeartbeats 32000000
set_option linter.unusedSimpArgs false
open Go.RowKit
def byl (l : List UInt8) : List Int := l.map fun b => (b.toNat : Int)
theorem byl_getD (l : List UInt8) (i : Nat) : (byl l).getD i 0 = ((l.getD i 0).toNat : Int) := by
 unfold byl
 simp only [List.getD, List.getElem?_map]
 cases l[i]? <;> simp
theorem byl_range (l : List UInt8) (i : Nat) : 0 ≤ (byl l).getD i 0 ∧ (byl l).getD i 0 ≤ 255 := by
 rw [byl_getD]
 have := UInt8.toNat_lt (l.getD i 0)
 omega
theorem u8_oneV : (Tryz.prog.info? 5).map (·.size) = some 1 := by kernel_rfl
theorem rwide_v (v : Value) (ls : List (List UInt8)) (l : List UInt8) (w : World) (hv : RowB w v ls) (hf : ls.flatten = l) (hl : l.length ≤ 1099511627776) (hK : GlobK5 w) (hO : GlobO w) : Calls Tryz.prog 58 #[v] w fun e w' => e = .returned (.agg ((wideB l).map bval).toArray) ∧ Below w.heap.size w w' := by
 subst hf
 exact rwide_f v ls w hv hl hK hO
theorem u8_one : (Tryz.prog.info? 5).map (·.size) = some 1 := by kernel_rfl
theorem rparts_f (s : List UInt8) (w : World) (hs : s.length = 32) (hK : GlobK5 w) : Calls Tryz.prog 34 #[.agg (s.map bval).toArray] w fun e w' => ∃ x, e = .returned (.tuple #[.agg ((secA s).map bval).toArray, x]) ∧ Row1 w' x ((secH s).map bval) ∧ Below w.heap.size w w' := by
 obtain ⟨i0, hi, hz0, hz1, hz2⟩ := info_parts Tryz.info5
 have HI0 := jh hi
 have HZ0 := jh hz0
 have HZ1 := jh hz1
 have HZ2 := jh hz2
 have HSL := jh hs
 have HK := jh hK
 have HB := jh (boxes2 w (s.map bval) (ints .u8 (List.replicate 32 0)) 23 23)
 clear hi hz0 hz1 hz2 hs hK
 go_enter Tryz.func34, Tryz.ntmps34
 go_upto_region 1 with (fail)
 obtain ⟨H1, H2, HE⟩ := HB.out
 change Code.wp _ _ _ _ ((w.alloc (.cells (s.map bval).toArray 23)).alloc (.cells (ints .u8 (List.replicate 32 0)).toArray 23))
 generalize (w.alloc (.cells (s.map bval).toArray 23)).alloc (.cells (ints .u8 (List.replicate 32 0)).toArray 23) = wa at *
 obtain ⟨A, hA⟩ : ∃ A, A = w.heap.size := ⟨_, rfl⟩
 have HAW : Hid (w.heap.size ≤ A) := jh (by omega)
 rw [← hA] at H1 H2 ⊢
 have HSR := jh (zdi (n := 32) H1 (by rw [q101, HSL.out]) (by unfold maxLen; omega))
 have HR := jh H2
 have HE : Hid (Ext w wa) := jh HE
 clear hA HB H1 H2
 go_wp2_with fail
 refine (rShb_any _ s wa HSR.out (by rw [HSL.out]; omega) (HK.out.ext HE.out)).mono ?_
 rintro e wb ⟨rfl, hb⟩
 have HR := xb HR hb
 have HE := xt HE hb
 clear hb HSR
 have HHL := jh (zbx s)
 have HSA : Hid (secA s = clampB ((sha512 s).take 32)) := jh rfl
 have HSH : Hid (secH s = (sha512 s).drop 32) := jh rfl
 generalize sha512 s = h at *
 have HZ := jh (Blk.made wb (ints .u8 (List.replicate 64 0)) 26)
 have HEA := jh (Ext.alloc wb (.cells (ints .u8 (List.replicate 64 0)).toArray 26))
 have HL : Hid ((h.map bval).length = (ints .u8 (List.replicate 64 0)).length) := jh (by rw [q101, HHL.out, zaa]; rfl)
 go_upto_region 2 with (refine ssb wb.heap.size (h.map bval) HZ.out HL.out (zcg HHL.out) (zaf _) ?_; intro w2 hb2 hg2)
 have HX := jh (zab HEA.out hg2 (q102 _))
 obtain ⟨S, hS⟩ : ∃ S, S = wb.heap.size := ⟨_, rfl⟩
 have HAS : Hid (A + 1 < S) := jh (by rw [hS]; exact HR.out.lt)
 have HR := xb HR HX.out
 have HE := xt HE HX.out
 rw [← hS] at hb2 ⊢
 have H4 := jh hb2
 clear hb2 hg2 HZ HEA HX HL hS
 have HXA := Ext.alloc w2 (.cells (ints .u8 (List.replicate 32 0)).toArray 23)
 obtain ⟨O, hO⟩ : ∃ O, O = w2.heap.size := ⟨_, rfl⟩
 have HOA : Hid (A + 1 < O ∧ S < O ∧ w.heap.size ≤ O) := jh (by have := H4.out.lt; have := HE.out.size; have := HAS.out; omega)
 have H5 : Hid (Blk (w2.alloc (.cells (ints .u8 (List.replicate 32 0)).toArray 23)) O ((List.replicate 32 (0 : UInt8)).map bval) 23) := jh (by rw [hO]; exact Blk.made w2 (ints .u8 (List.replicate 32 0)) 23)
 have HR := xb HR HXA
 have H4 := xb H4 HXA
 have HE := xt HE HXA
 clear HXA
 go_upto_region 3 with (fail)
 change Code.wp _ _ _ _ (w2.alloc (.cells (ints .u8 (List.replicate 32 0)).toArray 23))
 rw [← hO]
 clear hO
 generalize w2.alloc (.cells (ints .u8 (List.replicate 32 0)).toArray 23) = w3 at *
 refine swf 2 1 2 ?_
 refine zaw (.slice (some ⟨O, 0, none⟩) 32 32) (by rfl) (fun w hw => by go_simp) ?_
 simp only [nm]
 refine zaw (.slice (some ⟨S, 0, none⟩) 32 64) (by rfl) (fun w hw => by go_simp) ?_
 simp only [nm]
 refine zao (zeh (k := 2) rfl (by kernel_rfl) (by kernel_rfl) (by kernel_rfl) rfl (fun w4 hw4 => ?_))
 have HR := xb HR hw4
 have H4 := xb H4 hw4
 have H5 := xb H5 hw4
 have HE := xt HE hw4
 clear hw4
 have HTL : Hid ((h.take 32).length = 32) := jh (by rw [q112, HHL.out]; rfl)
 refine wp_copy_blk _ _ 46 46 rfl 5 q107 u8_one _ _ _ _ _ _ rfl rfl O 0 _ _ H5.out ((h.take 32).map bval) (by rw [q101, HTL.out]; rfl) (fun _ => ⟨rfl, ⟨S, 0, none⟩, rfl, fun j v hj => ?_⟩) (by rw [q101, HTL.out]; simp) (zaf _) ?_
 ·have hj2 : j < 32 := by
   rcases q116 j 32 with h' | h'
   ·exact h'
   ·rw [List.getElem?_eq_none (by rw [q101, HTL.out]; omega)] at hj; cases hj
  rw [WideShapes.add_plain, q125, H4.out.cell, ← hj, List.getElem?_map, List.getElem?_map, List.getElem?_take, if_pos hj2]
 intro w5 hb5 hg5
 have e32 : splice ((List.replicate 32 (0 : UInt8)).map bval) 0 ((h.take 32).map bval) = (h.take 32).map bval := by
  rw [splice_bytes, HTL.out]
  simp
 rw [e32] at hb5
 have HR := jh (HR.out.grown hg5 (by have := HOA.out; simp; omega))
 have H4 := jh (H4.out.grown hg5 (by have := HOA.out; simp; omega))
 have HE := jh (zab HE.out hg5 HOA.out.2.2)
 have H5 := jh hb5
 clear hb5 hg5 e32
 generalize goInt ((h.take 32).map bval).length = g1
 simp only [nm]
 have HCL := jh (zdb HTL.out)
 rw [← HSA.out] at HCL
 have HC : Hid (∀ w, Calls Tryz.prog 66 #[.agg ((h.take 32).map bval).toArray] w fun e w' => e = .returned (.agg ((secA s).map bval).toArray) ∧ Below w.heap.size w w') := jh (fun w => by rw [HSA.out]; exact rclamped_any _ w HTL.out)
 have HRS : Hid (Row1 w5 (.slice (some ⟨S, 32, none⟩) 32 32) ((h.drop 32).map bval)) := jh (by
  have h1 := row_cut q107 q115 (zdi (n := 64) H4.out (by rw [q101, HHL.out]) (by unfold maxLen; omega)) 32 (by rw [q101, HHL.out]; omega)
  refine ⟨some ⟨S, 32, none⟩, 32, by rw [q101, q139, HHL.out], by rw [q101, q139, HHL.out]; omega, by unfold maxLen; omega, (fun e => by cases e), fun _ => ⟨S, 32, rfl, H4.out.lt, fun i hi => ?_⟩⟩
  rw [H4.out.cell, List.getElem?_map, List.getElem?_map, List.getElem?_drop])
 have HDL : Hid ((h.drop 32).length = 32) := jh (by rw [q139, HHL.out])
 have HO : Hid (A + 1 < O) := jh HOA.out.1
 generalize h.take 32 = ht at *
 generalize h.drop 32 = hd at *
 go_upto_region 4 with (fail)
 have rs := HRS.out
 have B0 : Ext w5 w5.drew := Ext.drew _
 refine wp_region_held_drew (S := fun w' => Far (A + 1) w5 w') (by kernel_rfl) (zbl B0) (fun hW => ?_)
 have rs := rs.below (Ext.drew _)
 refine tke 0 (.agg ((ht).map bval).toArray) rfl (sld O 0 (fun w h => zba H5.out (by have := HO.out; omega) h) q100 (zac HTL.out)) hW ?_
 simp only [nm]
 refine tke 2 (.slice (some ⟨S, 32, none⟩) 32 32) rfl (zdy _ _ _ _ (.pointer (some ⟨S, 0, none⟩)) (.slice (some ⟨S, 32, none⟩) 32 32) (some (.int .i64 32)) none (by rfl) rfl rfl rfl rfl (fun w => by go_simp)) hW ?_
 simp only [nm]
 refine rdy 1 rfl fun K hK => ?_
 go_simp
 refine (HC.out _).mono ?_
 rintro e m1 ⟨rfl, b1⟩
 have rs := rs.below b1
 have N1 : Ext w5 m1 := B0.trans b1
 refine hK.out _ _ (zbl N1) (fun hW => ?_)
 clear hK K
 try simp only [nm]
 refine rdy 3 rfl fun K hK => ?_
 refine zbn (by rfl) ?_
 refine zfb _ _ 46 rfl (m1).heap.size 5 i0 (.int .u8 0) 1 q107 HI0.out HZ0.out HZ1.out HZ2.out rfl (.slice none 0 0) 0 [] rfl (World.ownsRow_nil _ _ _ _) rfl rs (zaf _) (by rw [q101, HDL.out]; unfold maxLen; omega) (by rw [q101, HDL.out]; omega) (q102 _) ?_
 intro v2 m2 ho2 hg2
 have b2 : Ext m1 m2 := ext_own (Ext.refl _) (World.ownsRow_nil _ _ 5 _) (q102 _) hg2
 have rs := rs.below b2
 rw [q118] at ho2
 have r2 : Row1 m2 v2 ((hd).map bval) := Row1.of_own ho2
 have N2 : Ext w5 m2 := N1.trans b2
 have own_far : Hid (v2.ownBlock ≠ some (A + 1)) := jh (Row1.own_ne ho2 (by have := HOA.out; have := H5.out.lt; have := N1.size; omega))
 refine hK.out _ _ (zbl N2) (fun hW => ?_)
 clear hK K
 try simp only [nm]
 refine rdy 4 rfl fun K hK => ?_
 refine zbn (by rfl) ?_
 refine zak _ _ _ rfl (A + 1) ((secA s).map bval) rfl rfl _ _ (zad HR.out N2) (by rw [q101, HCL.out, zaa]; rfl) (zac (HCL.out)) (zaf _) ?_
 intro m3 hb3 hg3
 refine hK.out _ _ (zcn N2 hg3) (fun hW => ?_)
 clear hK K
 try simp only [nm]
 refine rdy 5 rfl fun K hK => ?_
 go_simp
 refine hK.out _ _ (zcn N2 hg3) (fun hW => ?_)
 clear hK K
 try simp only [nm]
 refine dne ?_
 go_wp2_with fail
 refine bodyPost_ret (zai rfl _ (A + 1) _ _ _ rfl hb3 q100 rfl (zac HCL.out)) rfl ?_
 refine ⟨_, rfl, ?_, zab (HE.out.trans N2) hg3 (by have := HAW.out; omega)⟩
 rw [HSH.out]
 exact r2.grown hg3 (fun k hk e => by cases hk; exact own_far.out e)
theorem rpublic_f (s : List UInt8) (w : World) (hs : s.length = 32) (hK : GlobK5 w) (hD : GlobD w) (hX : GlobX w) (hY : GlobY w) : Calls Tryz.prog 15 #[.agg (s.map bval).toArray] w fun e w' => e = .returned (.agg ((edPub s).map bval).toArray) ∧ Below w.heap.size w w' := by
 have HSL := jh hs
 have HK := jh hK
 have HGD := jh hD
 have HGX := jh hX
 have HGY := jh hY
 have HB := jh (boxes2 w (s.map bval) (ints .u8 (List.replicate 32 0)) 23 23)
 clear hs hK hD hX hY
 go_enter Tryz.func15, Tryz.ntmps15
 go_upto_region 1 with (fail)
 obtain ⟨H1, H2, HE⟩ := HB.out
 change Code.wp _ _ _ _ ((w.alloc (.cells (s.map bval).toArray 23)).alloc (.cells (ints .u8 (List.replicate 32 0)).toArray 23))
 generalize (w.alloc (.cells (s.map bval).toArray 23)).alloc (.cells (ints .u8 (List.replicate 32 0)).toArray 23) = wa at *
 obtain ⟨A, hA⟩ : ∃ A, A = w.heap.size := ⟨_, rfl⟩
 have HAW : Hid (w.heap.size ≤ A) := jh (by omega)
 rw [← hA] at H1 H2 ⊢
 have HS := jh H1
 have HR := jh H2
 have HE : Hid (Ext w wa) := jh HE
 clear hA HB H1 H2
 go_wp2_with (refine slb A HS.out q100 (zac HSL.out) ?_)
 refine (rparts_f s wa HSL.out (HK.out.ext HE.out)).mono ?_
 rintro e wb ⟨x, rfl, hx, hb⟩
 have HR := xb HR hb
 have HE := xt HE hb
 clear hx hb HS
 have HAL : Hid ((secA s).length = 32) := jh (by unfold secA; exact zdb (by rw [q112, zbx]; rfl))
 have HPB : Hid (edPub s = encB (pmul (leN (secA s)) bP)) := jh rfl
 generalize secA s = a at *
 have HZ := jh (Blk.made wb (ints .u8 (List.replicate 32 0)) 23)
 have HEA := jh (Ext.alloc wb (.cells (ints .u8 (List.replicate 32 0)).toArray 23))
 have HL : Hid ((a.map bval).length = (ints .u8 (List.replicate 32 0)).length) := jh (by rw [q101, HAL.out, zaa]; rfl)
 go_upto_region 2 with (refine ssb wb.heap.size (a.map bval) HZ.out HL.out (zac HAL.out) (zaf _) ?_; intro wc hb2 hg2)
 have HXX := jh (zab HEA.out hg2 (q102 _))
 obtain ⟨T, hT⟩ : ∃ T, T = wb.heap.size := ⟨_, rfl⟩
 have HO : Hid (A + 1 < T) := jh (by rw [hT]; exact HR.out.lt)
 have HR := xb HR HXX.out
 have HE := xt HE HXX.out
 rw [← hT] at hb2 ⊢
 have HT := jh hb2
 clear hb2 hg2 HZ HEA HXX HL hT
 have HIS := jh (erun_full (Pt.es_is bP) (m := 256) (n := leN a) (by have := leN_lt a; rw [HAL.out] at this; exact Nat.lt_of_lt_of_eq this (by decide +kernel)))
 have B0 : Ext wc wc.drew := Ext.drew _
 refine wp_region_held_drew (S := fun w' => Far (A + 1) wc w') (by kernel_rfl) (zbl B0) (fun hW => ?_)
 refine tke 1 (.agg ((a).map bval).toArray) rfl (sld T 0 (fun w h => zba HT.out (by have := HO.out; omega) h) q100 (zac HAL.out)) hW ?_
 simp only [nm]
 refine rdy 0 rfl fun K hK => ?_
 go_simp
 refine (rbase_f _ (HGX.out.ext (HE.out.trans B0)) (HGY.out.ext (HE.out.trans B0))).mono ?_
 rintro e m1 ⟨v1, rfl, e1, b1⟩
 obtain ⟨a1, c1, d1, g1, hz1, z1⟩ := e1
 subst hz1
 have N1 : Ext wc m1 := B0.trans b1
 refine hK.out _ _ (zbl N1) (fun hW => ?_)
 clear hK K
 try simp only [nm]
 refine rdy 2 rfl fun K hK => ?_
 go_simp
 refine (rmany_f _ bP.es a _ (⟨_, _, _, _, rfl, z1⟩ : PtV _ (bP.es)) HAL.out (HGD.out.ext (HE.out.trans N1))).mono ?_
 rintro e m2 ⟨v2, rfl, e2, b2⟩
 obtain ⟨a2, c2, d2, g2, hz2, z2⟩ := e2
 subst hz2
 have N2 : Ext wc m2 := N1.trans b2
 refine hK.out _ _ (zbl N2) (fun hW => ?_)
 clear hK K
 try simp only [nm]
 refine rdy 3 rfl fun K hK => ?_
 go_simp
 refine (rwritten_f _ _ (pmul (leN a) bP) _ (⟨_, _, _, _, rfl, z2⟩ : PtV _ (erun 256 bP.es (leN a) 256)) HIS.out).mono ?_
 rintro e m3 ⟨rfl, b3⟩
 have N3 : Ext wc m3 := N2.trans b3
 refine hK.out _ _ (zbl N3) (fun hW => ?_)
 clear hK K
 try simp only [nm]
 refine rdy 4 rfl fun K hK => ?_
 refine zbn (by rfl) ?_
 refine zak _ _ _ rfl (A + 1) ((encB (pmul (leN a) bP)).map bval) rfl rfl _ _ (zad HR.out N3) (by rw [q101, zbw, zaa]; rfl) (zac ((zbw _))) (zaf _) ?_
 intro m4 hb4 hg4
 refine hK.out _ _ (zcn N3 hg4) (fun hW => ?_)
 clear hK K
 try simp only [nm]
 refine dne ?_
 go_wp2_with fail
 refine bodyPost_ret (zbc rfl _ (A + 1) _ _ _ _ rfl hb4 q100 (zac (zbw _))) rfl ?_
 exact ⟨by rw [HPB.out], zab (HE.out.trans N3) hg4 (by have := HAW.out; omega)⟩
def GS (w : World) : Prop := GlobK5 w ∧ GlobO w ∧ GlobD w ∧ GlobX w ∧ GlobY w
def GV (w : World) : Prop := GS w ∧ Glob w
theorem GS.ext {w w' : World} (h : GS w) (hb : Ext w w') : GS w' := ⟨h.1.ext hb, h.2.1.ext hb, h.2.2.1.ext hb, h.2.2.2.1.ext hb, h.2.2.2.2.ext hb⟩
theorem GV.ext {w w' : World} (h : GV w) (hb : Ext w w') : GV w' := ⟨h.1.ext hb, h.2.ext hb⟩
theorem crt_num_any (n : Int) (w : World) : Calls Tryz.prog 13 #[.int .i64 n] w fun e w' => e = .returned (.int .i64 n) ∧ Below w.heap.size w w' := by
 go_enter Tryz.func13, Tryz.ntmps13
 go_wp2_with fail
 go_ret
 exact ⟨rfl, Below.refl _ _⟩
theorem crt_build (q : Int) (w : World) : (Instr.build 23 #[(0, .int .u8 q)]).run Tryz.prog w = .ok (.agg (Value.int .u8 q :: List.replicate 31 (.int .u8 0)).toArray) w := by
 simp [Instr.build, q109]
 rfl
theorem crt_sm (q : UInt8) (z : Int) (hz : z = (q.toNat : Int)) (w : World) : (Instr.build 23 #[(0, .int .u8 z)]).run Tryz.prog w = .ok (.agg ((smL q).map bval).toArray) w := by
 subst hz
 rw [crt_build]
 simp [smL, bval]
def GP (w : World) : Prop := GlobK5 w ∧ GlobD w ∧ GlobX w ∧ GlobY w
theorem GP.ext {w w' : World} (h : GP w) (hb : Ext w w') : GP w' := ⟨h.1.ext hb, h.2.1.ext hb, h.2.2.1.ext hb, h.2.2.2.ext hb⟩
theorem GS.gp {w : World} (h : GS w) : GP w := ⟨h.1, h.2.2.1, h.2.2.2.1, h.2.2.2.2⟩
theorem rpub_g (s : List UInt8) (w : World) (hs : s.length = 32) (hG : GP w) : Calls Tryz.prog 15 #[.agg (s.map bval).toArray] w fun e w' => e = .returned (.agg ((edPub s).map bval).toArray) ∧ Below w.heap.size w w' := rpublic_f s w hs hG.1 hG.2.1 hG.2.2.1 hG.2.2.2
theorem alive_any16 {MG : World → Prop} (SC : CrtSaid MG) (w : World) (hG : MG w) (hV : GP w) : Calls Tryz.prog 10 #[] w fun e w' => e = .returned (.bool true) ∧ Below w.heap.size w w' := by
 have HG := jh hG
 have HV := jh hV
 have HSC := jh SC
 have HL1 : Hid ((smL 1).length = 32) := jh (smL_length _)
 have HL2 : Hid ((smL 2).length = 32) := jh (smL_length _)
 have HP1 := jh (fun w hG => rpub_g (smL 1) w HL1.out hG)
 have HP2 := jh (fun w hG => rpub_g (smL 2) w HL2.out hG)
 have HK1 : Hid ((edPub (smL 1)).length = 32) := jh (edPub_length _)
 have HK2 : Hid ((edPub (smL 2)).length = 32) := jh (edPub_length _)
 have hy := sgn_yes (id := 7) (key := edPub (smL 2)) (by decide) (zef (may_pub _)) (smL 1)
 have HSG := jh (fun w hG => SC.sign (smL 1) (edPub (smL 2)) 7 w HL1.out HK2.out ⟨by decide, by decide⟩ hG)
 rw [hy.1, hy.2.1, hy.2.2.1, hy.2.2.2] at HSG
 have HCY : Hid (certV (edPub (smL 1)) 7 (edPub (smL 2)) (certG (smL 1) 7 (edPub (smL 2))) = true) := jh (certV_sign (smL 1) (edPub (smL 2)) (by decide))
 have HCN : Hid (certV (edPub (smL 2)) 7 (edPub (smL 2)) (certG (smL 1) 7 (edPub (smL 2))) = false) := jh certV_other
 have HGL : Hid ((certG (smL 1) 7 (edPub (smL 2))).length = 64) := jh (certG_length _ _ _)
 generalize certG (smL 1) 7 (edPub (smL 2)) = g at *
 generalize edPub (smL 1) = p at *
 generalize edPub (smL 2) = k at *
 clear hG hV SC hy
 have HIK := jh (zac HK2.out)
 have HLK : Hid ((k.map bval).length = (ints .u8 (List.replicate 32 0)).length) := jh (by rw [q101, zaa, HK2.out]; rfl)
 have HB1 := jh (fun w => crt_sm 1 1 rfl w)
 have HB2 := jh (fun w => crt_sm 2 2 rfl w)
 go_enter Tryz.func10, Tryz.ntmps10
 go_wp2_with (refine zbf rfl 23 #[(0, _)] rfl #[(0, .int .u8 2)] (by simp [Act.eval]) (.agg ((smL 2).map bval).toArray) (HB2.out _) ?_)
 refine (HP2.out w HV.out).mono ?_
 rintro e w1 ⟨rfl, hb⟩
 have HE := jh (show Ext w w1 from hb)
 clear hb HP2
 have HZ := jh (Blk.made w1 (ints .u8 (List.replicate 32 0)) 23)
 have HEA := jh (Ext.alloc w1 (.cells (ints .u8 (List.replicate 32 0)).toArray 23))
 go_upto_region 2 with (refine ssb w1.heap.size (k.map bval) HZ.out HLK.out HIK.out (zaf _) ?_; intro w2 hb2 hg2)
 have HX := jh (zab HEA.out hg2 (q102 _))
 have HE := xt HE HX.out
 have HKB := jh hb2
 obtain ⟨D, hD⟩ : ∃ D, D = w1.heap.size := ⟨_, rfl⟩
 rw [← hD] at HKB ⊢
 clear hb2 hg2 HZ HEA HX hD
 go_wp2_with (first | (refine zbf rfl 23 #[(0, _)] rfl #[(0, .int .u8 1)] (by simp [Act.eval]) (.agg ((smL 1).map bval).toArray) (HB1.out _) ?_) | (refine zbo (by rfl) _ _ rfl D rfl _ _ _ _ HKB.out q100 HIK.out ?_))
 refine (HSG.out w2 (HSC.out.ext HG.out HE.out)).mono ?_
 rintro e w3 ⟨rfl, hb⟩
 have HKB := xb HKB hb
 have HE := xt HE hb
 clear hb HSG
 have HZ := jh (Blk.made w3 (certC 0 z32 z64) 28)
 have HEA := jh (Ext.alloc w3 (.cells (certC 0 z32 z64).toArray 28))
 have HLC : Hid ((certC 7 k g).length = (certC 0 z32 z64).length) := jh (by rw [zbz HK2.out HGL.out, zbz zde zbv])
 have HIC := jh (zdv (id := 7) HK2.out HGL.out)
 go_upto_region 3 with (refine ssb w3.heap.size (certC 7 k g) HZ.out HLC.out HIC.out (zek _ _ _) ?_; intro w4 hb2 hg2)
 have HX := jh (zab HEA.out hg2 (q102 _))
 have HN4 := jh HX.out
 have HKB := xb HKB HX.out
 have HE := xt HE HX.out
 have HCB := jh hb2
 obtain ⟨C, hC⟩ : ∃ C, C = w3.heap.size := ⟨_, rfl⟩
 rw [← hC] at HCB ⊢
 clear hb2 hg2 HZ HEA HX hC HN4
 have HCI := jh (cert_parts HCB.out HK2.out).1
 have HC1 := jh (fun (wx : World) (hx : Ext w4 wx) => HSC.out.check p k g 7 wx HK1.out HK2.out HGL.out ⟨by decide, by decide⟩ (HSC.out.ext HG.out (HE.out.trans hx)))
 have HC2 := jh (fun (wx : World) (hx : Ext w4 wx) => HSC.out.check k k g 7 wx HK2.out HK2.out HGL.out ⟨by decide, by decide⟩ (HSC.out.ext HG.out (HE.out.trans hx)))
 have HPX := jh (fun (wx : World) (hx : Ext w4 wx) => HP1.out wx (HV.out.ext (HE.out.trans hx)))
 rw [HCY.out] at HC1
 rw [HCN.out] at HC2
 have B0 : Ext w4 w4.drew := Ext.drew _
 refine wp_region_held_drew (S := fun w' => Ext w4 w') (by kernel_rfl) B0 (fun hW => ?_)
 refine tke 0 (.int .i64 0) rfl (zbm _ (.int .i64 0) (by rfl) rfl rfl) hW ?_
 simp only [nm]
 refine rdy 1 rfl fun K hK => ?_
 go_simp
 refine (crt_num_any (0) w4.drew).mono ?_
 rintro e m1 ⟨rfl, b1⟩
 have N1 : Ext w4 m1 := B0.trans b1
 refine hK.out _ _ N1 (fun hW => ?_)
 clear hK K
 try simp only [nm]
 refine tke 2 (.bool true) rfl (yi_eqi .i64 _ _ _ _ _ _ true (decide_eq_true (rfl)) (by rfl) rfl rfl rfl) hW ?_
 simp only [nm]
 refine tke 3 (.bool true) rfl (zbm _ (.bool true) (by rfl) rfl rfl) hW ?_
 simp only [nm]
 refine tke 4 (.pointer (some ⟨C, 0, none⟩)) rfl (zbj (.pointer (some ⟨C, 0, none⟩)) (by rfl) (fun w _ => by go_simp)) hW ?_
 simp only [nm]
 refine tke 5 (.int .i64 7) rfl (zbj (.int .i64 (7)) (by rfl) (fun w h => by have hc := (Below.cell h (q138 _ _ HCI.out)).trans HCI.out; go_simp)) hW ?_
 simp only [nm]
 refine tke 6 (.bool true) rfl (yi_eqi .i64 _ _ _ _ _ _ true (decide_eq_true (rfl)) (by rfl) rfl rfl rfl) hW ?_
 simp only [nm]
 refine tke 7 (.bool true) rfl (zct _ _ _ true _ (by rfl) rfl rfl rfl) hW ?_
 simp only [nm]
 refine tke 8 (.bool true) rfl (zbm _ (.bool true) (by rfl) rfl rfl) hW ?_
 simp only [nm]
 refine tke 9 (.agg ((smL 1).map bval).toArray) rfl (yi_build _ _ _ _ HB1.out (by rfl) rfl (by simp [Act.eval])) hW ?_
 simp only [nm]
 refine tke 11 (.agg (certC 7 k g).toArray) rfl (sld C 0 (fun w h => zah HCB.out h) q131 HIC.out) hW ?_
 simp only [nm]
 refine rdy 10 rfl fun K hK => ?_
 go_simp
 refine (HPX.out m1 N1).mono ?_
 rintro e m2 ⟨rfl, b2⟩
 have N2 : Ext w4 m2 := N1.trans b2
 refine hK.out _ _ N2 (fun hW => ?_)
 clear hK K
 try simp only [nm]
 refine rdy 12 rfl fun K hK => ?_
 go_simp
 refine (HC1.out m2 N2).mono ?_
 rintro e m3 ⟨rfl, b3⟩
 have N3 : Ext w4 m3 := N2.trans b3
 refine hK.out _ _ N3 (fun hW => ?_)
 clear hK K
 try simp only [nm]
 refine tke 13 (.bool true) rfl (zct _ _ _ true _ (by rfl) rfl rfl rfl) hW ?_
 simp only [nm]
 refine tke 14 (.bool true) rfl (zbm _ (.bool true) (by rfl) rfl rfl) hW ?_
 simp only [nm]
 refine tke 15 (.agg ((k).map bval).toArray) rfl (sld D 0 (fun w h => zah HKB.out h) q100 HIK.out) hW ?_
 simp only [nm]
 refine tke 16 (.agg (certC 7 k g).toArray) rfl (sld C 0 (fun w h => zah HCB.out h) q131 HIC.out) hW ?_
 simp only [nm]
 refine rdy 17 rfl fun K hK => ?_
 go_simp
 refine (HC2.out m3 N3).mono ?_
 rintro e m4 ⟨rfl, b4⟩
 have N4 : Ext w4 m4 := N3.trans b4
 refine hK.out _ _ N4 (fun hW => ?_)
 clear hK K
 try simp only [nm]
 refine tke 18 (.bool true) rfl (yi_not _ _ false (by rfl) rfl rfl) hW ?_
 simp only [nm]
 refine tke 19 (.bool true) rfl (zct _ _ _ true _ (by rfl) rfl rfl rfl) hW ?_
 simp only [nm]
 refine rdy 20 rfl fun K hK => ?_
 go_simp
 refine hK.out _ _ N4 (fun hW => ?_)
 clear hK K
 try simp only [nm]
 refine dne ?_
 have HN := xt HE N4
 go_wp2_with fail
 go_ret
 exact ⟨rfl, HN.out⟩
