/- Lemmas. -/
import Derived.Test.YthafgicndklgfaaGreatDoorQy13
namespace Go.Proofs.YthafgicndklgfaaGreatDoor
set_option linter.unusedVariables false
set_option maxRecDepth 100000
set_option maxHeartbeats 32000000
set_option linter.unusedSimpArgs false
open Go.RowKit
theorem fars_glob {c b : Nat} {w wa w' : World} {v : Value} {vs : List Value} (h : w.rangeAt b 0 (v :: vs)) (he : Ext w wa) (hc : w.heap.size ≤ c) (hf : Far c wa w') : w'.rangeAt b 0 (v :: vs) := by
 obtain ⟨wx, h1, h2⟩ := hf
 rcases h2 with h2 | h2
 ·rw [h2]
  exact zfi h (he.trans h1)
 ·exact zfi h (zab (he.trans h1) h2 hc)
theorem es_zero : (⟨0, fp 1, fp 1, 0⟩ : ES) = esZero := by rw [fp_one]; rfl
theorem es_base : (⟨fp bX, fp bY, fp 1, fp bX * fp bY⟩ : ES) = bP.es := by rw [fp_one]; rfl
theorem z16_el : ElL (List.replicate 16 0) 0 := ⟨by simp, el_zero⟩
theorem rnought_f (w : World) : Calls Tryz.prog 70 #[] w fun e w' => ∃ r, e = .returned r ∧ PtV r esZero ∧ Below w.heap.size w w' := by
 have HB := jh (zfo w (ints .i64 (List.replicate 64 0)) 70)
 go_enter Tryz.func70, Tryz.ntmps70
 go_upto_region 1 with (fail)
 obtain ⟨H1, HE⟩ := HB.out
 change Code.wp _ _ _ _ (w.alloc (.cells (ints .i64 (List.replicate 64 0)).toArray 70))
 generalize w.alloc (.cells (ints .i64 (List.replicate 64 0)).toArray 70) = wa at *
 obtain ⟨A, hA⟩ : ∃ A, A = w.heap.size := ⟨_, rfl⟩
 have HO : Hid (w.heap.size ≤ A) := jh (by omega)
 rw [← hA] at H1 ⊢
 have HR := jh H1
 have HE : Hid (Ext w wa) := jh HE
 clear hA HB H1
 go_wp2_with fail
 refine (rone_f 1 wa (by omega) (by omega)).mono ?_
 rintro e wb ⟨r, rfl, hr, hb⟩
 obtain ⟨z1, rfl, e1⟩ := hr.toL
 have HE := xt HE hb
 have HR := xb HR hb
 have HE1 := jh e1
 clear hb hr e1
 go_wp2_with fail
 refine (rone_f 1 wb (by omega) (by omega)).mono ?_
 rintro e wc ⟨r, rfl, hr, hb⟩
 obtain ⟨z2, rfl, e2⟩ := hr.toL
 have HE := xt HE hb
 have HR := xb HR hb
 have HE2 := jh e2
 clear hb hr e2
 have HZ : Hid (PtZ (List.replicate 16 0) z1 z2 (List.replicate 16 0) ⟨0, fp 1, fp 1, 0⟩) := jh ⟨z16_el, HE1.out, HE2.out, z16_el⟩
 have HL : Hid ((ptC (List.replicate 16 0) z1 z2 (List.replicate 16 0)).length = (ints .i64 (List.replicate 64 0)).length) := jh (by rw [zca HZ.out, zaa]; rfl)
 go_wp2_with (first | (refine zbf rfl 70 #[(0, _), (1, _), (2, _), (3, _)] rfl #[(0, .agg (ints .i64 (List.replicate 16 0)).toArray), (1, .agg (ints .i64 z1).toArray), (2, .agg (ints .i64 z2).toArray), (3, .agg (ints .i64 (List.replicate 16 0)).toArray)] (by simp [Act.eval]; try rfl) _ (build_pt HZ.out _) ?_) | (refine ssb A (ptC (List.replicate 16 0) z1 z2 (List.replicate 16 0)) HR.out HL.out (zcl HZ.out) (zeo _ _ _ _) ?_; intro wd hb4 hg4))
 refine bodyPost_ret (result_pt rfl _ A _ _ rfl hb4 q132 (zcl HZ.out)) rfl ?_
 exact ⟨_, rfl, ⟨_, _, _, _, rfl, by rw [← es_zero]; exact HZ.out⟩, zab HE.out hg4 HO.out⟩
theorem rbase_f (w : World) (hX : GlobX w) (hY : GlobY w) : Calls Tryz.prog 37 #[] w fun e w' => ∃ r, e = .returned r ∧ PtV r bP.es ∧ Below w.heap.size w w' := by
 have HB := jh (zfo w (ints .i64 (List.replicate 64 0)) 70)
 have HGX := jh hX
 have HGY := jh hY
 clear hX hY
 go_enter Tryz.func37, Tryz.ntmps37
 go_upto_region 1 with (fail)
 obtain ⟨H1, HE⟩ := HB.out
 change Code.wp _ _ _ _ (w.alloc (.cells (ints .i64 (List.replicate 64 0)).toArray 70))
 generalize w.alloc (.cells (ints .i64 (List.replicate 64 0)).toArray 70) = wa at *
 obtain ⟨A, hA⟩ : ∃ A, A = w.heap.size := ⟨_, rfl⟩
 have HO : Hid (w.heap.size ≤ A) := jh (by omega)
 have HLT : Hid (∀ g, g < w.heap.size → A ≠ g) := jh (fun g hg => by omega)
 rw [← hA] at H1 ⊢
 have HR := jh H1
 have HE : Hid (Ext w wa) := jh HE
 clear hA HB H1
 have B0 : Ext wa wa.drew := Ext.drew _
 refine wp_region_held_drew (S := fun w' => Far (A) wa w') (by kernel_rfl) (zbl B0) (fun hW => ?_)
 refine tke 0 (.agg (ints .i64 bxL).toArray) rfl (sld 0 0 (fun w h => fars_glob (HGX.out) HE.out HO.out h) q103 (zau bx_el.len)) hW ?_
 simp only [nm]
 refine tke 1 (.agg (ints .i64 byL).toArray) rfl (sld 1 0 (fun w h => fars_glob (HGY.out) HE.out HO.out h) q103 (zau by_el.len)) hW ?_
 simp only [nm]
 refine tke 3 (.agg (ints .i64 bxL).toArray) rfl (sld 0 0 (fun w h => fars_glob (HGX.out) HE.out HO.out h) q103 (zau bx_el.len)) hW ?_
 simp only [nm]
 refine tke 4 (.agg (ints .i64 byL).toArray) rfl (sld 1 0 (fun w h => fars_glob (HGY.out) HE.out HO.out h) q103 (zau by_el.len)) hW ?_
 simp only [nm]
 refine rdy 2 rfl fun K hK => ?_
 go_simp
 refine (rone_f 1 _ (by omega) (by omega)).mono ?_
 rintro e m1 ⟨v1, rfl, e1, b1⟩
 obtain ⟨z1, hz1, l1⟩ := e1.form
 subst hz1
 have N1 : Ext wa m1 := B0.trans b1
 refine hK.out _ _ (zbl N1) (fun hW => ?_)
 clear hK K
 try simp only [nm]
 refine rdy 5 rfl fun K hK => ?_
 go_simp
 refine (zfg _ bx_el.el by_el.el).mono ?_
 rintro e m2 ⟨v2, rfl, e2, b2⟩
 obtain ⟨z2, hz2, l2⟩ := e2.form
 subst hz2
 have N2 : Ext wa m2 := N1.trans b2
 refine hK.out _ _ (zbl N2) (fun hW => ?_)
 clear hK K
 try simp only [nm]
 refine tke 6 (.agg (ptC bxL byL z1 z2).toArray) rfl (yi_build _ _ _ _ (build_pt (⟨⟨bx_el.len, bx_el.el⟩, ⟨by_el.len, by_el.el⟩, ⟨l1, e1⟩, ⟨l2, e2⟩⟩ : PtZ bxL byL z1 z2 ⟨fp bX, fp bY, fp 1, fp bX * fp bY⟩)) (by rfl) rfl (by simp [Act.eval])) hW ?_
 simp only [nm]
 refine rdy 7 rfl fun K hK => ?_
 refine zbn (by rfl) ?_
 refine zak _ _ _ rfl (A) (ptC bxL byL z1 z2) rfl rfl _ _ (zad HR.out N2) (by rw [zca ((⟨⟨bx_el.len, bx_el.el⟩, ⟨by_el.len, by_el.el⟩, ⟨l1, e1⟩, ⟨l2, e2⟩⟩ : PtZ bxL byL z1 z2 ⟨fp bX, fp bY, fp 1, fp bX * fp bY⟩)), zaa]; rfl) (zcl ((⟨⟨bx_el.len, bx_el.el⟩, ⟨by_el.len, by_el.el⟩, ⟨l1, e1⟩, ⟨l2, e2⟩⟩ : PtZ bxL byL z1 z2 ⟨fp bX, fp bY, fp 1, fp bX * fp bY⟩))) (zeo _ _ _ _) ?_
 intro m3 hb3 hg3
 refine hK.out _ _ (zcn N2 hg3) (fun hW => ?_)
 clear hK K
 try simp only [nm]
 refine dne ?_
 go_wp2_with fail
 refine bodyPost_ret (result_pt rfl _ A _ _ rfl hb3 q132 (zcl (⟨⟨bx_el.len, bx_el.el⟩, ⟨by_el.len, by_el.el⟩, ⟨l1, e1⟩, ⟨l2, e2⟩⟩ : PtZ bxL byL z1 z2 ⟨fp bX, fp bY, fp 1, fp bX * fp bY⟩))) rfl ?_
 exact ⟨_, rfl, ⟨_, _, _, _, rfl, by rw [← es_base]; exact (⟨⟨bx_el.len, bx_el.el⟩, ⟨by_el.len, by_el.el⟩, ⟨l1, e1⟩, ⟨l2, e2⟩⟩ : PtZ bxL byL z1 z2 ⟨fp bX, fp bY, fp 1, fp bX * fp bY⟩)⟩, zab (HE.out.trans N2) hg3 HO.out⟩
theorem rmany_f (v : Value) (s : ES) (nb : List UInt8) (w : World) (hv : PtV v s) (hn : nb.length = 32) (hG : GlobD w) : Calls Tryz.prog 36 #[v, .agg (nb.map bval).toArray] w fun e w' => ∃ r, e = .returned r ∧ PtV r (erun 256 s (leN nb) 256) ∧ Below w.heap.size w w' := by
 obtain ⟨pa, pb, pc, pd, rfl, hp⟩ := hv
 have HPZ := jh hp
 have HNL := jh hn
 have HG0 := jh hG
 have HB := jh (boxes3 w (ptC pa pb pc pd) (nb.map bval) (ints .i64 (List.replicate 64 0)) 70 23 70)
 clear hp hn hG
 go_enter Tryz.func36, Tryz.ntmps36
 go_upto_region 1 with (fail)
 obtain ⟨H1, H2, H3, HE⟩ := HB.out
 change Code.wp _ _ _ _ (((w.alloc (.cells (ptC pa pb pc pd).toArray 70)).alloc (.cells (nb.map bval).toArray 23)).alloc (.cells (ints .i64 (List.replicate 64 0)).toArray 70))
 generalize ((w.alloc (.cells (ptC pa pb pc pd).toArray 70)).alloc (.cells (nb.map bval).toArray 23)).alloc (.cells (ints .i64 (List.replicate 64 0)).toArray 70) = wa at *
 obtain ⟨A, hA⟩ : ∃ A, A = w.heap.size := ⟨_, rfl⟩
 have HO : Hid (w.heap.size ≤ A) := jh (by omega)
 rw [← hA] at H1 H2 H3 ⊢
 have HP : Hid (PtB wa A s) := jh ⟨_, _, _, _, H1, HPZ.out⟩
 have HN := jh H2
 have HR := jh H3
 have HE : Hid (Ext w wa) := jh HE
 clear hA HB H1 H2 H3 HPZ
 go_wp2_with fail
 refine (rnought_f wa).mono ?_
 rintro e wb ⟨r, rfl, hr, hb⟩
 obtain ⟨ra, rb, rc, rd, rfl, hz⟩ := hr
 have HP := jh (HP.out.ext hb)
 have HN := xb HN hb
 have HR := xb HR hb
 have HE := xt HE hb
 have HZZ := jh hz
 clear hb hz
 have HZ := jh (Blk.made wb (ints .i64 (List.replicate 64 0)) 70)
 have HEA := jh (Ext.alloc wb (.cells (ints .i64 (List.replicate 64 0)).toArray 70))
 have HL : Hid ((ptC ra rb rc rd).length = (ints .i64 (List.replicate 64 0)).length) := jh (by rw [zca HZZ.out, zaa]; rfl)
 go_upto_region 2 with (refine ssb wb.heap.size (ptC ra rb rc rd) HZ.out HL.out (zcl HZZ.out) (zeo _ _ _ _) ?_; intro wc hb2 hg2)
 have HX := jh (zab HEA.out hg2 (q102 _))
 obtain ⟨T, hT⟩ : ∃ T, T = wb.heap.size := ⟨_, rfl⟩
 rw [← hT] at hb2 ⊢
 have HO : Hid (w.heap.size ≤ A ∧ A + 1 + 1 < T) := jh ⟨HO.out, by rw [hT]; exact HR.out.lt⟩
 have HP := jh (HP.out.ext HX.out)
 have HN := xb HN HX.out
 have HR := xb HR HX.out
 have HE := xt HE HX.out
 have HT : Hid (PtB wc T (erun 256 s (leN nb) 0)) := jh ⟨_, _, _, _, hb2, HZZ.out⟩
 clear hb2 hg2 HZ HEA HX hT HL HZZ
 go_wp2_with fail
 go_loopw [6] (fun i wr => ∃ k : Nat, k ≤ 256 ∧ i = .int .i64 (255 - (k : Int)) ∧ PtB wr T (erun 256 s (leN nb) k) ∧ PtB wr A s ∧ Blk wr (A + 1) (nb.map bval) 23 ∧ Blk wr (A + 1 + 1) (ints .i64 (List.replicate 64 0)) 70 ∧ Ext w wr) (fun i _ => (intOf i + 1).toNat)
 case atStart => exact ⟨0, by omega, rfl, HT.out, HP.out, HN.out, HR.out, HE.out⟩
 case round =>
  clear HT HP HN HR HE
  obtain ⟨k, hk, rfl, q1, q2, q3, q4, q5⟩ := hrel
  have i0' : (0 : Int) ≤ (k : Int) := Int.natCast_nonneg _
  obtain ⟨t, ht⟩ : ∃ t, t = erun 256 s (leN nb) k := ⟨_, rfl⟩
  rw [← ht] at q1
  have HTT := jh ht
  obtain ⟨ta, tb, tc, td, tB, tZ⟩ := q1
  have HT := jh tB
  have HTZ := jh tZ
  have HP := jh q2
  have HN := jh q3
  have HR := jh q4
  have HE := jh q5
  clear q2 q3 q4 q5 tB tZ ht
  by_cases hlt : k < 256
  ·have i1 : (0 : Int) ≤ 255 - (k : Int) := by omega
   have i2 : (k : Int) ≤ 255 := by omega
   go_wp2_with (first | (refine wpList_load_mid rfl _ _ rfl T 0 rfl _ _ HT.out.range q132 rfl (zcl HTZ.out) ?_))
   refine (rsum_f _ _ t t wr ⟨_, _, _, _, rfl, HTZ.out⟩ ⟨_, _, _, _, rfl, HTZ.out⟩ (HG0.out.ext HE.out)).mono ?_
   rintro e w1 ⟨r, rfl, hr, hb⟩
   obtain ⟨sa, sb, sc, sd, rfl, hz⟩ := hr
   have HT := xb HT hb
   have HP := jh (HP.out.ext hb)
   have HN := xb HN hb
   have HR := xb HR hb
   have HE := xt HE hb
   have HSZ := jh hz
   clear hb hz
   have HL : Hid ((ptC sa sb sc sd).length = (ptC ta tb tc td).length) := jh (by rw [zca HSZ.out, zca HTZ.out])
   go_upto_region 6 with (refine ssb T (ptC sa sb sc sd) HT.out HL.out (zcl HSZ.out) (zeo _ _ _ _) ?_; intro w2 hb2 hg2)
   have HP := jh (HP.out.grown hg2 (by have := HO.out; simp; omega))
   have HN := jh (HN.out.grown hg2 (by have := HO.out; simp; omega))
   have HR := jh (HR.out.grown hg2 (by have := HO.out; simp; omega))
   have HE := jh (zab HE.out hg2 (by have := HO.out; omega))
   have HT := jh hb2
   clear hb2 hg2 HL HTZ
   have e1 := HN.out.cell ((255 - k) / 8)
   rw [zbg (by have := HNL.out; omega)] at e1
   generalize hbt : (nb.getD ((255 - k) / 8) 0).toNat = bt at *
   have s1 : ((255 - (k : Int)) / 8).toNat = (255 - k) / 8 := by omega
   have s2 : (0 : Int) ≤ (255 - (k : Int)) / 8 := by omega
   have s3 : (255 - (k : Int)) / 8 < 32 := by omega
   have s4 : (0 : Int) ≤ (255 - (k : Int)) % 8 := by omega
   have s5 : (255 - (k : Int)) % 8 < 8 := by omega
   have s6 : ((255 - (k : Int)) % 8).toNat = (255 - k) % 8 := by omega
   have hbit := leN_bit nb (255 - k) (by have := HNL.out; omega)
   rw [hbt] at hbit
   have hcast : (bt : Int) / 2 ^ ((255 - k) % 8) = ((bt / 2 ^ ((255 - k) % 8) : Nat) : Int) := by
    rw [Int.natCast_ediv, Int.natCast_pow]
    rfl
   have htb : (leN nb).testBit (255 - k) = decide (leN nb / 2 ^ (255 - k) % 2 = 1) := Nat.testBit_eq_decide_div_mod_eq
   have HRUN : Hid (erun 256 s (leN nb) (k + 1) = if decide (leN nb / 2 ^ (255 - k) % 2 = 1) = true then (t.sum t).sum s else t.sum t) := jh (by rw [erun, HTT.out, ← htb])
   by_cases hb1 : leN nb / 2 ^ (255 - k) % 2 = 1
   ·have hq : bits .and .u8 ((bt : Int) / 2 ^ ((255 - k) % 8)) 1 = 1 := by
     rw [hcast, andU1, ← hbit, hb1]
     rfl
    have HF : Hid (erun 256 s (leN nb) (k + 1) = (t.sum t).sum s) := jh (by rw [HRUN.out, if_pos (decide_eq_true hb1)])
    clear hbit hcast htb hbt hb1 HRUN
    go_upto_region 7 with (fail)
    clear hq e1 s1 s2 s3 s4 s5 s6
    obtain ⟨pa, pb, pc, pd, pB, pZ⟩ := HP.out
    have HPB := jh pB
    have HPZ := jh pZ
    clear pB pZ
    go_wp2_with (first | (refine wpList_load_mid rfl _ _ rfl T 0 rfl _ _ HT.out.range q132 rfl (zcl HSZ.out) ?_) | (refine wpList_load_mid rfl _ _ rfl A 0 rfl _ _ HPB.out.range q132 rfl (zcl HPZ.out) ?_))
    refine (rsum_f _ _ (t.sum t) s w2 ⟨_, _, _, _, rfl, HSZ.out⟩ ⟨_, _, _, _, rfl, HPZ.out⟩ (HG0.out.ext HE.out)).mono ?_
    rintro e w3 ⟨r, rfl, hr, hb⟩
    obtain ⟨xa, xb9, xc, xd, rfl, hz⟩ := hr
    have HT := xb HT hb
    have HP := jh (HP.out.ext hb)
    have HN := xb HN hb
    have HR := xb HR hb
    have HE := xt HE hb
    have HXZ := jh hz
    clear hb hz HPB HPZ
    have HL : Hid ((ptC xa xb9 xc xd).length = (ptC sa sb sc sd).length) := jh (by rw [zca HSZ.out, zca HXZ.out])
    go_wp2_with (refine ssb T (ptC xa xb9 xc xd) HT.out HL.out (zcl HXZ.out) (zeo _ _ _ _) ?_; intro w4 hb2 hg2)
    go_roundw
    case rel => exact ⟨k + 1, by omega, by go_num, by rw [HF.out]; exact ⟨_, _, _, _, hb2, HXZ.out⟩, HP.out.grown hg2 (by have := HO.out; simp; omega), HN.out.grown hg2 (by have := HO.out; simp; omega), HR.out.grown hg2 (by have := HO.out; simp; omega), zab HE.out hg2 (by have := HO.out; omega)⟩
    case measure => simp [intOf]; omega
   ·have hb0 : leN nb / 2 ^ (255 - k) % 2 = 0 := by omega
    have hq : bits .and .u8 ((bt : Int) / 2 ^ ((255 - k) % 8)) 1 = 0 := by
     rw [hcast, andU1, ← hbit, hb0]
     rfl
    have HF : Hid (erun 256 s (leN nb) (k + 1) = t.sum t) := jh (by rw [HRUN.out, if_neg (by rw [decide_eq_false hb1]; decide)])
    clear hbit hcast htb hbt hb1 hb0 HRUN
    go_wp2_with fail
    go_roundw
    case rel => exact ⟨k + 1, by omega, by go_num, by rw [HF.out]; exact ⟨_, _, _, _, HT.out, HSZ.out⟩, HP.out, HN.out, HR.out, HE.out⟩
    case measure => simp [intOf]; omega
  ·have hk' : k = 256 := by omega
   subst hk'
   have HL : Hid ((ptC ta tb tc td).length = (ints .i64 (List.replicate 64 0)).length) := jh (by rw [zca HTZ.out, zaa]; rfl)
   go_wp2_with (first | (refine wpList_load_mid rfl _ _ rfl T 0 rfl _ _ HT.out.range q132 rfl (zcl HTZ.out) ?_) | (refine ssb (A + 1 + 1) (ptC ta tb tc td) HR.out HL.out (zcl HTZ.out) (zeo _ _ _ _) ?_; intro w4 hb4 hg4))
   refine bodyPost_ret (result_pt rfl _ (A + 1 + 1) _ _ rfl hb4 q132 (zcl HTZ.out)) rfl ?_
   exact ⟨_, rfl, ⟨_, _, _, _, rfl, by rw [← HTT.out]; exact HTZ.out⟩, zab HE.out hg4 (by have := HO.out; omega)⟩
theorem rwritten_f (v : Value) (s : ES) (P : Pt) (w : World) (hv : PtV v s) (hs : s.is P) : Calls Tryz.prog 35 #[v] w fun e w' => e = .returned (.agg ((encB P).map bval).toArray) ∧ Below w.heap.size w w' := by
 obtain ⟨pa, pb, pc, pd, rfl, hp⟩ := hv
 obtain ⟨z1, z2, z3, z4⟩ := id hp
 have Hpx := jh z1
 have Hpy := jh z2
 have Hpz := jh z3
 have Hpt := jh z4
 have HIS := jh hs
 clear z1 z2 z3 z4 hp hs
 have HB := jh (boxes2 w (ptC pa pb pc pd) (ints .u8 (List.replicate 32 0)) 70 23)
 go_enter Tryz.func35, Tryz.ntmps35
 go_upto_region 1 with (fail)
 obtain ⟨H1, H2, HE⟩ := HB.out
 change Code.wp _ _ _ _ ((w.alloc (.cells (ptC pa pb pc pd).toArray 70)).alloc (.cells (ints .u8 (List.replicate 32 0)).toArray 23))
 generalize (w.alloc (.cells (ptC pa pb pc pd).toArray 70)).alloc (.cells (ints .u8 (List.replicate 32 0)).toArray 23) = wa at *
 obtain ⟨A, hA⟩ : ∃ A, A = w.heap.size := ⟨_, rfl⟩
 have HO : Hid (w.heap.size ≤ A) := jh (by omega)
 rw [← hA] at H1 H2 ⊢
 have HP := jh H1
 have HR := jh H2
 have HE : Hid (Ext w wa) := jh HE
 clear hA HB H1 H2
 go_wp2_with (refine wpList_load_mid rfl _ _ rfl A 32 rfl _ _ (rng_z (HP.out) Hpx.out.len Hpy.out.len) q103 rfl (zau Hpz.out.len) ?_)
 refine (rinv_f wa Hpz.out.el).mono ?_
 rintro e wl1 ⟨r, rfl, hr, hb⟩
 obtain ⟨z, hz, lz⟩ := hr.form
 subst hz
 have HP := xb HP hb
 have HR := xb HR hb
 have HE := xt HE hb
 clear hb
 have HZ := jh (Blk.made wl1 (ints .i64 (List.replicate 16 0)) 68)
 have HEA := jh (Ext.alloc wl1 (.cells (ints .i64 (List.replicate 16 0)).toArray 68))
 have HI := jh (zau lz)
 have HL : Hid ((ints .i64 z).length = (ints .i64 (List.replicate 16 0)).length) := jh (by rw [zaa, lz]; rfl)
 go_upto_region 2 with (refine ssb wl1.heap.size (ints .i64 z) HZ.out HL.out HI.out (zaj _ _) ?_; intro wl2 hbm hgm)
 have HX := jh (zab HEA.out hgm (q102 _))
 obtain ⟨TZz, hT⟩ : ∃ T, T = wl1.heap.size := ⟨_, rfl⟩
 have HTZz : Hid (A + 1 < TZz) := jh (by rw [hT]; exact HR.out.lt)
 rw [← hT] at hbm ⊢
 have HP := xb HP HX.out
 have HR := xb HR HX.out
 have HE := xt HE HX.out
 have EZz : Hid (ElB wl2 TZz (fi s.z)) := jh ⟨z, lz, hbm, hr⟩
 have HO := jh (And.intro HO.out HTZz.out)
 clear hbm hgm HZ HEA HX hT hr HI HL lz
 obtain ⟨zZz, lZz, bZz, eZz⟩ := EZz.out
 have HbZz := jh bZz
 have HeZz := jh eZz
 have HlZz := jh lZz
 have HiZz := jh (zau lZz)
 clear bZz eZz lZz
 go_wp2_with (first | (refine wpList_load_mid rfl _ _ rfl A 0 rfl _ _ (rng_x (HP.out)) q103 rfl (zau Hpx.out.len) ?_) | (refine slb TZz HbZz.out q103 HiZz.out ?_))
 refine (zfg wl2 Hpx.out.el HeZz.out).mono ?_
 rintro e wl3 ⟨r, rfl, hr, hb⟩
 obtain ⟨z, hz, lz⟩ := hr.form
 subst hz
 rw [is_x HIS.out] at hr
 have EZz := jh (EZz.out.ext hb)
 have HP := xb HP hb
 have HR := xb HR hb
 have HE := xt HE hb
 clear hb
 have HRR := jh hr
 clear hr
 go_wp2_with fail
 refine (rout_f wl3 HRR.out).mono ?_
 rintro e wl4 ⟨rfl, hb⟩
 have EZz := jh (EZz.out.ext hb)
 have HP := xb HP hb
 have HR := xb HR hb
 have HE := xt HE hb
 clear hb HRR lz
 have HZ := jh (Blk.made wl4 (ints .u8 (List.replicate 32 0)) 23)
 have HEA := jh (Ext.alloc wl4 (.cells (ints .u8 (List.replicate 32 0)).toArray 23))
 have HL : Hid (((nbF P.x).map bval).length = (ints .u8 (List.replicate 32 0)).length) := jh (by rw [q101, zae, zaa]; rfl)
 go_upto_region 3 with (refine ssb wl4.heap.size ((nbF P.x).map bval) HZ.out HL.out (zac (zae _)) (zaf _) ?_; intro wl5 hb2 hg2)
 have HX := jh (zab HEA.out hg2 (q102 _))
 obtain ⟨Xn, hT⟩ : ∃ T, T = wl4.heap.size := ⟨_, rfl⟩
 have HTXn : Hid (TZz < Xn) := jh (by rw [hT]; exact EZz.out.lt)
 rw [← hT] at hb2 ⊢
 have EZz := jh (EZz.out.ext HX.out)
 have HP := xb HP HX.out
 have HR := xb HR HX.out
 have HE := xt HE HX.out
 have HXn := jh hb2
 have HO := jh (And.intro HO.out HTXn.out)
 clear hb2 hg2 HZ HEA HX hT HL
 obtain ⟨zZz, lZz, bZz, eZz⟩ := EZz.out
 have HbZz := jh bZz
 have HeZz := jh eZz
 have HlZz := jh lZz
 have HiZz := jh (zau lZz)
 clear bZz eZz lZz
 go_wp2_with (first | (refine wpList_load_mid rfl _ _ rfl A 16 rfl _ _ (rng_y (HP.out) Hpx.out.len) q103 rfl (zau Hpy.out.len) ?_) | (refine slb TZz HbZz.out q103 HiZz.out ?_))
 refine (zfg wl5 Hpy.out.el HeZz.out).mono ?_
 rintro e wl6 ⟨r, rfl, hr, hb⟩
 obtain ⟨z, hz, lz⟩ := hr.form
 subst hz
 rw [is_y HIS.out] at hr
 have EZz := jh (EZz.out.ext hb)
 have HP := xb HP hb
 have HR := xb HR hb
 have HE := xt HE hb
 have HXn := xb HXn hb
 clear hb
 have HRR := jh hr
 clear hr
 go_wp2_with fail
 refine (rout_f wl6 HRR.out).mono ?_
 rintro e wl7 ⟨rfl, hb⟩
 have EZz := jh (EZz.out.ext hb)
 have HP := xb HP hb
 have HR := xb HR hb
 have HE := xt HE hb
 have HXn := xb HXn hb
 clear hb HRR lz
 have HZ := jh (Blk.made wl7 (ints .u8 (List.replicate 32 0)) 23)
 have HEA := jh (Ext.alloc wl7 (.cells (ints .u8 (List.replicate 32 0)).toArray 23))
 have HL : Hid (((nbF P.y).map bval).length = (ints .u8 (List.replicate 32 0)).length) := jh (by rw [q101, zae, zaa]; rfl)
 go_upto_region 4 with (refine ssb wl7.heap.size ((nbF P.y).map bval) HZ.out HL.out (zac (zae _)) (zaf _) ?_; intro wl8 hb2 hg2)
 have HX := jh (zab HEA.out hg2 (q102 _))
 obtain ⟨Yn, hT⟩ : ∃ T, T = wl7.heap.size := ⟨_, rfl⟩
 have HTYn : Hid (Xn < Yn) := jh (by rw [hT]; exact HXn.out.lt)
 rw [← hT] at hb2 ⊢
 have EZz := jh (EZz.out.ext HX.out)
 have HP := xb HP HX.out
 have HR := xb HR HX.out
 have HE := xt HE HX.out
 have HXn := xb HXn HX.out
 have HYn := jh hb2
 have HO := jh (And.intro HO.out HTYn.out)
 clear hb2 hg2 HZ HEA HX hT HL
 have hodd := nbF_odd P.x
 have c0 := HXn.out.cell 0
 rw [zbg (by rw [zae]; omega)] at c0
 have c1 := HYn.out.cell 31
 rw [zbg (by rw [zae]; omega)] at c1
 have f1 := HYn.out.free 31
 have HEL := jh (zbw P)
 have hpar : P.x.val % 2 = 1 ∨ P.x.val % 2 = 0 := by omega
 rcases hpar with hpar | hpar
 ·have hq : bits .and .u8 (((nbF P.x).getD 0 0).toNat : Int) 1 = 1 := by
   rw [andU1, hodd, hpar]
   rfl
  have HX1 : Hid (((nbF P.y).map bval).set 31 (.int .u8 (bits .or .u8 (((nbF P.y).getD 31 0).toNat : Int) 128)) = (encB P).map bval) := jh (by
   have e1 := u8_or ((nbF P.y).getD 31 0) 128
   rw [show (128 : Int) = ((128 : UInt8).toNat : Int) from rfl, e1, u8_set, enc_odd hpar])
  clear hodd hpar
  generalize (((nbF P.x).getD 0 0).toNat : Int) = q0 at *
  generalize (((nbF P.y).getD 31 0).toNat : Int) = q1 at *
  have hsh : (1 : Int) * 2 ^ 7 = 128 := by decide
  go_upto_region 5 with (fail)
  have HM := jh (HYn.out.set 31 (.int .u8 (bits .or .u8 q1 128)))
  rw [HX1.out] at HM
  have HR := jh (HR.out.far (a := ⟨Yn, 31, none⟩) (by have := HO.out; simp; omega) (.int .u8 (bits .or .u8 q1 128)))
  have HE := jh (Below.setCell HE.out (p := ⟨Yn, 31, none⟩) (by have := HO.out; simp; omega) (.int .u8 (bits .or .u8 q1 128)))
  generalize bits .or .u8 q1 128 = v1 at *
  generalize wl8.setCell ⟨Yn, 31, none⟩ (.int .u8 v1) = wz at *
  have HE : Hid (Ext w wz) := jh HE.out
  clear c0 c1 f1 HX1
  have HL : Hid (((encB P).map bval).length = (ints .u8 (List.replicate 32 0)).length) := jh (by rw [q101, HEL.out, zaa]; rfl)
  go_wp2_with (first | (refine slb Yn HM.out q100 (zac HEL.out) ?_) | (refine ssb (A + 1) ((encB P).map bval) HR.out HL.out (zac HEL.out) (zaf _) ?_; intro w9 hb9 hg9))
  refine bodyPost_ret (zbc rfl _ (A + 1) _ _ _ _ rfl hb9 q100 (zac HEL.out)) rfl ?_
  exact ⟨rfl, zab HE.out hg9 (by have := HO.out; omega)⟩
 ·have hq : bits .and .u8 (((nbF P.x).getD 0 0).toNat : Int) 1 = 0 := by
   rw [andU1, hodd, hpar]
   rfl
  have HX1 : Hid (((nbF P.y).map bval).set 31 (.int .u8 (bits .or .u8 (((nbF P.y).getD 31 0).toNat : Int) 0)) = (encB P).map bval) := jh (by
   have e1 := u8_or ((nbF P.y).getD 31 0) 0
   rw [show (0 : Int) = ((0 : UInt8).toNat : Int) from rfl, e1, u8_set, enc_even hpar])
  clear hodd hpar
  generalize (((nbF P.x).getD 0 0).toNat : Int) = q0 at *
  generalize (((nbF P.y).getD 31 0).toNat : Int) = q1 at *
  go_upto_region 5 with (fail)
  have HM := jh (HYn.out.set 31 (.int .u8 (bits .or .u8 q1 0)))
  rw [HX1.out] at HM
  have HR := jh (HR.out.far (a := ⟨Yn, 31, none⟩) (by have := HO.out; simp; omega) (.int .u8 (bits .or .u8 q1 0)))
  have HE := jh (Below.setCell HE.out (p := ⟨Yn, 31, none⟩) (by have := HO.out; simp; omega) (.int .u8 (bits .or .u8 q1 0)))
  generalize bits .or .u8 q1 0 = v1 at *
  generalize wl8.setCell ⟨Yn, 31, none⟩ (.int .u8 v1) = wz at *
  have HE : Hid (Ext w wz) := jh HE.out
  clear c0 c1 f1 HX1
  have HL : Hid (((encB P).map bval).length = (ints .u8 (List.replicate 32 0)).length) := jh (by rw [q101, HEL.out, zaa]; rfl)
  go_wp2_with (first | (refine slb Yn HM.out q100 (zac HEL.out) ?_) | (refine ssb (A + 1) ((encB P).map bval) HR.out HL.out (zac HEL.out) (zaf _) ?_; intro w9 hb9 hg9))
  refine bodyPost_ret (zbc rfl _ (A + 1) _ _ _ _ rfl hb9 q100 (zac HEL.out)) rfl ?_
  exact ⟨rfl, zab HE.out hg9 (by have := HO.out; omega)⟩
theorem rclamped_any (kb : List UInt8) (w : World) (hk : kb.length = 32) : Calls Tryz.prog 66 #[.agg (kb.map bval).toArray] w fun e w' => e = .returned (.agg ((clampB kb).map bval).toArray) ∧ Below w.heap.size w w' := by
 have HB := jh (boxes2 w (kb.map bval) (ints .u8 (List.replicate 32 0)) 23 23)
 have HKL := jh hk
 clear hk
 go_enter Tryz.func66, Tryz.ntmps66
 go_upto_region 1 with (fail)
 obtain ⟨H1, H2, HE⟩ := HB.out
 change Code.wp _ _ _ _ ((w.alloc (.cells (kb.map bval).toArray 23)).alloc (.cells (ints .u8 (List.replicate 32 0)).toArray 23))
 generalize (w.alloc (.cells (kb.map bval).toArray 23)).alloc (.cells (ints .u8 (List.replicate 32 0)).toArray 23) = wa at *
 obtain ⟨A, hA⟩ : ∃ A, A = w.heap.size := ⟨_, rfl⟩
 have HAW : Hid (w.heap.size ≤ A) := jh (by omega)
 rw [← hA] at H1 H2 ⊢
 have H1 := jh H1
 have H2 := jh H2
 have HE : Hid (Ext w wa) := jh HE
 clear hA HB
 obtain ⟨k1, hk1⟩ : ∃ k1, k1 = kb.set 0 (kb.getD 0 0 &&& 248) := ⟨_, rfl⟩
 have HX1 : Hid ((kb.map bval).set 0 (.int .u8 (bits .and .u8 ((kb.getD 0 0).toNat : Int) 248)) = k1.map bval) := jh (by
  have e1 := u8_and (kb.getD 0 0) 248
  rw [show (248 : Int) = ((248 : UInt8).toNat : Int) from rfl, e1, u8_set, hk1])
 have HL1 : Hid (k1.length = 32) := jh (by rw [hk1, q154, HKL.out])
 have HX2 : Hid ((k1.map bval).set 31 (.int .u8 (bits .or .u8 (bits .and .u8 ((k1.getD 31 0).toNat : Int) 127) 64)) = (clampB kb).map bval) := jh (by
  have e1 := u8_and (k1.getD 31 0) 127
  have e2 := u8_or (k1.getD 31 0 &&& 127) 64
  rw [show (127 : Int) = ((127 : UInt8).toNat : Int) from rfl, show (64 : Int) = ((64 : UInt8).toNat : Int) from rfl, e1, e2, u8_set, hk1]
  rfl)
 have HCL := jh (zdb HKL.out)
 obtain ⟨cl, hcl⟩ : ∃ cl, cl = clampB kb := ⟨_, rfl⟩
 rw [← hcl] at HCL HX2
 have HCE := jh hcl
 clear hcl
 clear hk1
 have c1 := H1.out.cell 0
 rw [zbg (by rw [HKL.out]; omega)] at c1
 have f1 := H1.out.free 0
 generalize ((kb.getD 0 0).toNat : Int) = q1 at *
 go_upto_region 2 with (fail)
 have HM := jh (H1.out.set 0 (.int .u8 (bits .and .u8 q1 248)))
 rw [HX1.out] at HM
 have H2 := jh (H2.out.far (a := ⟨A, 0, none⟩) (by simp) (.int .u8 (bits .and .u8 q1 248)))
 have HE := jh (Below.setCell HE.out (p := ⟨A, 0, none⟩) (by have := HAW.out; simp; omega) (.int .u8 (bits .and .u8 q1 248)))
 generalize bits .and .u8 q1 248 = v1 at *
 generalize wa.setCell ⟨A, 0, none⟩ (.int .u8 v1) = wb at *
 clear c1 f1 HX1 H1
 have c1 := HM.out.cell 31
 rw [zbg (by rw [HL1.out]; omega)] at c1
 have f1 := HM.out.free 31
 generalize ((k1.getD 31 0).toNat : Int) = q2 at *
 go_upto_region 3 with (fail)
 have HM2 := jh (HM.out.set 31 (.int .u8 (bits .or .u8 (bits .and .u8 q2 127) 64)))
 rw [HX2.out] at HM2
 have H2 := jh (H2.out.far (a := ⟨A, 31, none⟩) (by simp) (.int .u8 (bits .or .u8 (bits .and .u8 q2 127) 64)))
 have HE := jh (Below.setCell HE.out (p := ⟨A, 31, none⟩) (by have := HAW.out; simp; omega) (.int .u8 (bits .or .u8 (bits .and .u8 q2 127) 64)))
 generalize bits .or .u8 (bits .and .u8 q2 127) 64 = v2 at *
 generalize wb.setCell ⟨A, 31, none⟩ (.int .u8 v2) = wc at *
 clear c1 f1 HX2 HM
 have HE : Hid (Ext w wc) := jh HE.out
 have HI : Hid ((Tryz.prog.info? 23).map (·.size) = some (cl.map bval).length) := jh (zac HCL.out)
 have HLo : Hid ((cl.map bval).length = (ints .u8 (List.replicate 32 0)).length) := jh (by rw [q101, HCL.out, zaa, q133])
 go_wp2_with (first | (refine slb A HM2.out q100 HI.out ?_) | (refine ssb (A + 1) (cl.map bval) H2.out HLo.out HI.out (zaf _) ?_; intro w5 hb5 hg5))
 refine bodyPost_ret (zbc rfl _ (A + 1) _ _ _ _ rfl hb5 q100 HI.out) rfl ?_
 exact ⟨by rw [HCE.out], zab HE.out hg5 (by have := HAW.out; omega)⟩
theorem rReduce_num (v : Value) (l : List UInt8) (w : World) (hv : Row1 w v (l.map bval)) (hG : GlobO w) :
  Calls Tryz.prog 103 #[v] w fun e w' => e = .returned (.agg ((nq (leN (l.take 64) : Nat)).map bval).toArray) ∧ Below w.heap.size w w' := by
 have HV := jh hv
 obtain ⟨a, cap, rfl, r1, r2, r3, r4⟩ := hv
 have HG := jh hG
 have HLM : Hid ((l.map bval).length = l.length) := jh (q101 _)
 clear hG r4 r3
 rw [HLM.out] at r1 ⊢
 unfold maxLen at r2
 have HB := jh (boxes2 w (ints .u8 (List.replicate 32 0)) (ints .i64 (List.replicate 33 0)) 23 169)
 have HB1 := jh (Ext.alloc w (.cells (ints .u8 (List.replicate 32 0)).toArray 23))
 go_enter Tryz.func103, Tryz.ntmps103
 go_upto_if 12 with (fail)
 change Code.wp _ _ _ _ (w.alloc (.cells (ints .u8 (List.replicate 32 0)).toArray 23))
 go_cut [0] from 13 to 14 (fun v wc => ∃ n : Nat, v = .slice a n cap ∧ n = (l.take 64).length ∧ Row1 w (.slice a n cap) ((l.take 64).map bval) ∧ wc = w.alloc (.cells (ints .u8 (List.replicate 32 0)).toArray 23))
 case first =>
  by_cases hle : l.length ≤ 64
  ·have hle2 : (l.length : Int) ≤ 64 := by omega
   have HRW : Hid (Row1 w (.slice a l.length cap) ((l.take 64).map bval)) := jh (by rw [q110 hle]; have := HV.out; rwa [HLM.out] at this)
   go_wp2_with fail
   go_meet
   exact ⟨_, rfl, by rw [q110 hle], HRW.out, rfl⟩
  ·have hle2 : (64 : Int) < (l.length : Int) := by omega
   have HRW : Hid (Row1 w (.slice a 64 cap) ((l.take 64).map bval)) := jh (by rw [List.map_take]; exact HV.out.head 64 (by rw [HLM.out]; omega))
   go_wp2_with fail
   go_meet
   exact ⟨_, rfl, by rw [q112]; omega, HRW.out, rfl⟩
 case rest =>
  obtain ⟨n, rfl, hn, hrow, rfl⟩ := hcut
  have hL64 : (l.take 64).length ≤ 64 := by simp; omega
  obtain ⟨L, hL⟩ : ∃ L, L = l.take 64 := ⟨_, rfl⟩
  rw [← hL] at hn hrow hL64
  have HLT := jh hL
  clear hL
  subst hn
  obtain ⟨a', cap', hv1, hv2, hv3, hv4, hv5⟩ := id hrow
  rw [q101] at hv1
  cases hv1
  unfold maxLen at hv3
  have HR := jh hv5
  have HBS : Hid ((L.map bval).length = L.length) := jh (q101 _)
  have HRL := jh hL64
  rw [HBS.out] at hv2
  clear r1 r2 HV HLM hrow hv4 hv5
  go_wp2_with fail
  change Code.wp _ _ _ _ ((w.alloc (.cells (ints .u8 (List.replicate 32 0)).toArray 23)).alloc (.cells (ints .i64 (List.replicate 33 0)).toArray 169))
  generalize (w.alloc (.cells (ints .u8 (List.replicate 32 0)).toArray 23)).alloc (.cells (ints .i64 (List.replicate 33 0)).toArray 169) = w0 at *
  obtain ⟨b1, b2, b4⟩ := HB.out
  obtain ⟨A, hA⟩ : ∃ A, A = w.heap.size := ⟨_, rfl⟩
  rw [← hA] at b1 b2 ⊢
  have hA2 : w.heap.size ≤ A := by omega
  have H1 := jh b1
  have H2 := jh b2
  have HE : Hid (Ext w w0) := jh b4
  clear b1 b2 b4 hA HB HB1 hL64
  have h64 := HRL.out
  go_loopw [4] (fun i wr => ∃ (j : Nat), j ≤ 8 * L.length ∧ i = .int .i64 ((j : Int) - 1) ∧ Blk wr (A + 1) (ints .i64 (dig 33 (upQ (leN L) j))) 169 ∧ Blk wr A (ints .u8 (List.replicate 32 0)) 23 ∧ Ext w wr) (fun i _ => (intOf i + 1).toNat)
  case atStart => exact ⟨8 * L.length, q102 _, by congr 1, by rw [upQ_start]; exact H2.out, H1.out, HE.out⟩
  case round =>
   clear H1 H2 HE
   obtain ⟨j, hj, rfl, hb1, hb2, hbel⟩ := hrel
   by_cases hlt : 1 ≤ j
   ·obtain ⟨i, rfl⟩ : ∃ i, j = i + 1 := ⟨j - 1, by omega⟩
    have hi1 : ((i + 1 : Nat) : Int) - 1 = (i : Int) := by omega
    rw [hi1]
    have i0 : (0 : Int) ≤ (i : Int) := Int.natCast_nonneg _
    have i1 : (i : Int) < 8 * (L.length : Int) := by omega
    have i8 : i / 8 < L.length := by omega
    obtain ⟨b, off, rfl, hbs, hcell⟩ := HR.out (by intro e; rw [List.map_eq_nil_iff] at e; rw [e] at i8; exact absurd i8 (by simp))
    have hc := hcell (i / 8) (by rw [HBS.out]; exact i8)
    rw [zbg i8] at hc
    have hc2 : wr.cell? ⟨b, off + i / 8, none⟩ = some (.int .u8 ((L.getD (i / 8) 0).toNat : Int)) := by rw [← hc]; exact hbel.cell (p := ⟨b, off + i / 8, none⟩) hbs
    have hbit := leN_bit L i (by omega)
    have hby := UInt8.toNat_lt (L.getD (i / 8) 0)
    obtain ⟨p, hp⟩ : ∃ p : Nat, p = i / 8 := ⟨_, rfl⟩
    obtain ⟨s, hs⟩ : ∃ s : Nat, s = i % 8 := ⟨_, rfl⟩
    rw [← hp] at hc2 hby hbit i8
    rw [← hs] at hbit
    have hp2 : (i : Int) / 8 = (p : Int) := by omega
    have hs2 : (i : Int) % 8 = (s : Int) := by omega
    have pL : (p : Int) < (L.length : Int) := by omega
    have s8 : (s : Int) < 8 := by omega
    have hand : bits .and .i64 (((L.getD p 0).toNat : Int) / 2 ^ s) 1 = ((leN L / 2 ^ i % 2 : Nat) : Int) := by
     have e : (((L.getD p 0).toNat : Int) / 2 ^ s) = (((L.getD p 0).toNat / 2 ^ s : Nat) : Int) := by simp
     have h3 : (L.getD p 0).toNat / 2 ^ s ≤ (L.getD p 0).toNat := Nat.div_le_self _ _
     rw [e, hbit]
     generalize (L.getD p 0).toNat / 2 ^ s = z at *
     rw [and_i64_1 _ (by omega) (by omega)]
     omega
    have HSTEP := jh (upQ_step (leN L) i)
    have HX := jh (upQ_lt (leN L) (i + 1))
    have HB2 : Hid (leN L / 2 ^ i % 2 = 0 ∨ leN L / 2 ^ i % 2 = 1) := jh (by omega)
    generalize leN L / 2 ^ i % 2 = bn at *
    generalize upQ (leN L) (i + 1) = x at *
    generalize (L.getD p 0).toNat = c at *
    have H1 := jh hb1
    have H2 := jh hb2
    have HE := jh hbel
    clear hb1 hb2 hbel hcell hc hbit hp hs hi1
    go_wp2_with fail
    have HX33 : Hid (x < 256 ^ 33) := jh (by have h1 := HX.out; have h2 : zcp < 256 ^ 33 := (by decide +kernel); omega)
    have HY33 : Hid (2 * x + bn < 256 ^ 33) := jh (by have h1 := HX.out; have h0 := HB2.out; have h2 : 2 * zcp + 1 < 256 ^ 33 := (by decide +kernel); omega)
    have HDL := jh (zdh 33 x)
    have HDD := jh (dig_digits 33 x)
    have HDN : Hid (∀ z c, DB (dig 33 x) z (bn : Int) c 33 → z = dig 33 (2 * x + bn)) := jh (fun z c h => h.done HX33.out HY33.out)
    have HDS : Hid (DB (dig 33 x) (dig 33 x) (bn : Int) (bn : Int) 0) := jh (DB.start HDL.out (by have := HB2.out; omega))
    generalize dig 33 x = d at *
    obtain ⟨wo, rfl⟩ : ∃ wo : World, wo = wr := ⟨_, rfl⟩
    go_loopw [5, 6] (fun cv kv wr => ∃ (k : Nat) (c : Int) (z : List Int), k ≤ 33 ∧ kv = .int .i64 (k : Int) ∧ cv = .int .i64 c ∧ DB d z (bn : Int) c k ∧ Blk wr (A + 1) (ints .i64 z) 169 ∧ Blk wr A (ints .u8 (List.replicate 32 0)) 23 ∧ Ext w wr) (fun _ kv _ => 33 - (intOf kv).toNat)
    case atStart => exact ⟨0, _, d, by omega, rfl, rfl, HDS.out, H1.out, H2.out, HE.out⟩
    case round =>
     clear H1 H2 HE hc2
     obtain ⟨k, cc, z, hk, rfl, rfl, hdb, hb1, hb2, hbel⟩ := hrel
     have k0 : (0 : Int) ≤ (k : Int) := Int.natCast_nonneg _
     have hcar := hdb.car
     by_cases hlk : k < 33
     ·have k1 : (k : Int) < 33 := by omega
      have hzl := hdb.len
      have e1 := hb1.cell k
      rw [zan (by omega)] at e1
      have f1 := hb1.free k
      have q1 := HDD.out k hlk
      rw [← hdb.far k (q102 _)] at q1
      have hst := hdb.step hlk HDL.out (HDD.out k hlk)
      have hm := and_i64_255 (2 * z.getD k 0 + cc) (by omega) (by omega)
      have HST := jh hst
      generalize z.getD k 0 = u at *
      have H1 := jh hb1
      have H2 := jh hb2
      have HE := jh hbel
      clear hst hb1 hb2 hbel hdb hzl
      go_wp2_with fail
      go_roundw
      case rel => exact ⟨k + 1, _, _, by omega, by go_num, rfl, HST.out, H1.out.seti k _, H2.out.far (by simp <;> omega) _, Below.setCell HE.out (by simp <;> omega) _⟩
      case measure => simp [intOf]; omega
     ·have hk33 : k = 33 := by omega
      subst hk33
      have hz := HDN.out z cc hdb
      subst hz
      have HSUB := jh (fun w hw => scl_rsub_any (2 * x + bn) w HY33.out hw)
      have HF : Hid ((if 2 * x + bn < zcp then 2 * x + bn else 2 * x + bn - zcp) = upQ (leN L) i) := jh (by rw [sub_once _ (by have := HX.out; have := HB2.out; omega), HSTEP.out])
      have hi1 : Hid ((Tryz.prog.info? 169).map (·.size) = some (ints .i64 (dig 33 (2 * x + bn))).length) := jh (by rw [zaa, zdh]; exact Tryz.arr169)
      have hi2 : Hid ((Tryz.prog.info? 169).map (·.size) = some (ints .i64 (dig 33 (upQ (leN L) i))).length) := jh (by rw [zaa, zdh]; exact Tryz.arr169)
      have hl2 : Hid ((ints .i64 (dig 33 (upQ (leN L) i))).length = (ints .i64 (dig 33 (2 * x + bn))).length) := jh (by rw [zaa, zaa, zdh, zdh])
      rw [HF.out] at HSUB
      have H1 := jh hb1
      have H2 := jh hb2
      have HE := jh hbel
      clear hb1 hb2 hbel hdb hcar hand
      generalize 2 * x + bn = y at *
      obtain ⟨x2, hx2⟩ : ∃ x2, x2 = upQ (leN L) i := ⟨_, rfl⟩
      rw [← hx2] at HSUB hi2 hl2
      have HX2 := jh hx2
      clear hx2 HF
      go_wp2_with (refine slb (A + 1) H1.out Tryz.underlying169 hi1.out ?_)
      refine (HSUB.out _ (HG.out.ext HE.out)).mono ?_
      rintro e w5 ⟨rfl, hb5⟩
      have H1 := xb H1 hb5
      have H2 := xb H2 hb5
      have HE := xt HE hb5
      clear hb5
      go_wp2_with (refine ssb (A + 1) _ H1.out hl2.out hi2.out (zaj _ _) ?_; intro w6 hb6 hg6)
      go_roundw
      case rel =>
       rw [HX2.out] at hb6
       exact ⟨i, by omega, rfl, hb6, H2.out.grown hg6 (by simp), zab HE.out hg6 (by omega)⟩
      case measure => simp [intOf]
   ·have hj0 : j = 0 := by omega
    subst hj0
    have he0 : ((0 : Nat) : Int) - 1 = -1 := rfl
    rw [he0]
    have HNQ : Hid (nq (leN L : Nat) = bytesN 32 (upQ (leN L) 0)) := jh (by rw [nq_nat]; unfold upQ; rw [Nat.pow_zero, Nat.div_one])
    have HDG : Hid (∀ k, k < 33 → (dig 33 (upQ (leN L) 0)).getD k 0 = ((upQ (leN L) 0 / 256 ^ k % 256 : Nat) : Int)) := jh (fun k hk => dig_cut 33 _ k hk)
    have HNL := jh (zbu (leN L : Nat))
    generalize upQ (leN L) 0 = x at *
    have HNB : Hid (∀ k, k < 32 → ((nq (leN L : Nat)).getD k 0).toNat = x / 256 ^ k % 256) := jh (fun k hk => by rw [HNQ.out, zdd 32 x k hk])
    obtain ⟨N, hN⟩ : ∃ N, N = nq (leN L : Nat) := ⟨_, rfl⟩
    rw [← hN] at HNB HNL
    have HNN : Hid (N = nq (leN (l.take 64) : Nat)) := jh (by rw [hN, HLT.out])
    clear hN
    have HDL := jh (zdh 33 x)
    generalize dig 33 x = d at *
    have HD := jh (Blk.made wr (ints .u8 (List.replicate 32 0)) 23)
    have H1 := jh (hb1.alloc (.cells (ints .u8 (List.replicate 32 0)).toArray 23))
    have H2 := jh (hb2.alloc (.cells (ints .u8 (List.replicate 32 0)).toArray 23))
    have HE := jh (Ext.trans hbel (Ext.alloc wr (.cells (ints .u8 (List.replicate 32 0)).toArray 23)))
    have hDA : A + 1 < wr.heap.size := hb1.lt
    clear hb1 hb2 hbel HNQ
    go_wp2_with fail
    change Code.wp _ _ _ _ (wr.alloc (.cells (ints .u8 (List.replicate 32 0)).toArray 23))
    generalize wr.alloc (.cells (ints .u8 (List.replicate 32 0)).toArray 23) = w3 at *
    generalize wr.heap.size = D at *
    go_loopw [9] (fun iv wr => ∃ (k : Nat), k ≤ 32 ∧ iv = .int .i64 (k : Int) ∧ Blk wr D ((fill 32 N k).map bval) 23 ∧ Blk wr (A + 1) (ints .i64 d) 169 ∧ Blk wr A (ints .u8 (List.replicate 32 0)) 23 ∧ Ext w wr) (fun iv _ => 32 - (intOf iv).toNat)
    case atStart => exact ⟨0, by omega, rfl, by rw [fill_start]; exact HD.out, H1.out, H2.out, HE.out⟩
    case round =>
     clear HD H1 H2 HE
     obtain ⟨k, hk, rfl, hb3, hb1, hb2, hbel⟩ := hrel
     have k0 : (0 : Int) ≤ (k : Int) := Int.natCast_nonneg _
     by_cases hlk : k < 32
     ·have k1 : (k : Int) < 32 := by omega
      have k2 : (k : Int) < 33 := by omega
      have hdl := HDL.out
      have e1 := hb1.cell k
      rw [zan (by omega), HDG.out k (by omega)] at e1
      have hln : ((fill 32 N k).map bval).length = 32 := by rw [q101, fill_length HNL.out (by omega)]
      have e3 := hb3.cell k
      rw [List.getElem?_eq_getElem (by omega)] at e3
      have f3 := hb3.free k
      generalize ((fill 32 N k).map bval)[k]'(by omega) = c3 at e3
      have hz : ((x / 256 ^ k % 256 : Nat) : Int) % 256 = ((N.getD k 0).toNat : Int) := by rw [HNB.out k hlk]; omega
      have HST := jh (zex HNL.out hlk hz)
      have hzb : x / 256 ^ k % 256 < 256 := q140 _ (by omega)
      have hz2 : ((x / 256 ^ k % 256 : Nat) : Int) % 256 = ((x / 256 ^ k % 256 : Nat) : Int) := by omega
      rw [hz2] at HST
      clear hz hz2
      generalize x / 256 ^ k % 256 = y at *
      have H1 := jh hb1
      have H2 := jh hb2
      have HD := jh hb3
      have HE := jh hbel
      clear hb1 hb2 hb3 hbel hdl hln
      go_wp2_with fail
      go_roundw
      case rel =>
       refine ⟨k + 1, by omega, by go_num, ?_, H1.out.far (by simp <;> omega) _, H2.out.far (by simp <;> omega) _, Below.setCell HE.out (by simp <;> omega) _⟩
       rw [← HST.out]
       exact HD.out.set k _
      case measure => simp [intOf]; omega
     ·have hk32 : k = 32 := by omega
      subst hk32
      rw [fill_full HNL.out] at hb3
      have H2 := jh hb2
      have HD := jh hb3
      have HE := jh hbel
      clear hb1 hb2 hb3 hbel
      have hi1 : Hid ((Tryz.prog.info? 23).map (·.size) = some (N.map bval).length) := jh (zac HNL.out)
      have hl1 : Hid ((N.map bval).length = (ints .u8 (List.replicate 32 0)).length) := jh (by rw [q101, HNL.out]; rfl)
      go_wp2_with (first | (refine slb D HD.out q100 hi1.out ?_) | (refine ssb A _ H2.out hl1.out hi1.out (zaf _) ?_; intro w7 hb7 hg7))
      exact bodyPost_ret (v := .agg (N.map bval).toArray) (zap (by rfl) _ A _ _ _ (by rfl) hb7 q100 rfl hi1.out) rfl ⟨by rw [HNN.out], zab HE.out hg7 (by omega)⟩
theorem flat_succ (ls : List (List UInt8)) (k : Nat) (l : List UInt8) (h : ls[k]? = some l) : (ls.take (k + 1)).flatten = (ls.take k).flatten ++ l := by
 have hk : k < ls.length := by
  rcases q116 k ls.length with h' | h'
  ·exact h'
  ·rw [List.getElem?_eq_none h'] at h; cases h
 rw [q159 hk, q169]
 rw [List.getElem?_eq_getElem hk] at h
 cases h
 simp
theorem flat_part (ls : List (List UInt8)) (k : Nat) : (ls.take k).flatten.length ≤ ls.flatten.length := by
 have h : ls.flatten = (ls.take k).flatten ++ (ls.drop k).flatten := by rw [← q169, q117]
 rw [h, q108]
 omega
theorem join_any (v : Value) (ls : List (List UInt8)) (w : World) (hv : RowB w v ls) (hb : ls.flatten.length ≤ 1099511627776) :
  Calls Tryz.prog 102 #[v] w fun e w' => ∃ x, e = .returned x ∧ Row1 w' x (ls.flatten.map bval) ∧ Below w.heap.size w w' := by
 obtain ⟨i0, hi, hz0, hz1, hz2⟩ := info_parts Tryz.info5
 obtain ⟨vals, hr, hlen, hx⟩ := hv
 obtain ⟨a, cap, rfl, r1, r2, r3, r4⟩ := id hr
 unfold maxLen at r2
 rw [hlen] at r1 ⊢
 have HI0 := jh hi
 have HZ0 := jh hz0
 have HZ1 := jh hz1
 have HZ2 := jh hz2
 have HX := jh hx
 have HC := jh r4
 have HLN := jh hlen
 have HB := jh hb
 have HNIL : Hid (w.ownsRow w.heap.size 5 1 (.slice none 0 0) 0 []) := jh (World.ownsRow_nil _ _ _ _)
 clear hr hx r3 r4 hb hlen hi hz0 hz1 hz2
 go_enter Tryz.func102, Tryz.ntmps102
 go_wp2_with fail
 go_loopw [3, 4] (fun x iv wr => ∃ (k : Nat), k ≤ ls.length ∧ iv = .int .i64 (k : Int) ∧ wr.ownsRow w.heap.size 5 1 x (ls.take k).flatten.length ((ls.take k).flatten.map bval) ∧ Ext w wr) (fun _ iv _ => ls.length - (intOf iv).toNat)
 case atStart => exact ⟨0, by omega, rfl, HNIL.out, Ext.refl w⟩
 case round =>
  clear HNIL
  obtain ⟨k, hk, rfl, ho, hE⟩ := hrel
  have k0 : (0 : Int) ≤ (k : Int) := Int.natCast_nonneg _
  have HO := jh ho
  have HE := jh hE
  have HS := jh hE.size
  clear ho hE
  by_cases hlk : k < ls.length
  ·have k1 : (k : Int) < (ls.length : Int) := by omega
   obtain ⟨b', off, rfl, hbs, hcell⟩ := HC.out (by intro e; have h := congrArg List.length e; rw [HLN.out] at h; simp only [q160] at h; omega)
   obtain ⟨xv, hxv⟩ : ∃ x, vals[k]? = some x := ⟨_, List.getElem?_eq_getElem (by rw [HLN.out]; exact hlk)⟩
   obtain ⟨lk, hlk2⟩ : ∃ x, ls[k]? = some x := ⟨_, List.getElem?_eq_getElem hlk⟩
   have HXR := jh ((HX.out k xv lk hxv hlk2).below HE.out)
   have hft := flat_succ ls k lk hlk2
   have hfl := flat_part ls (k + 1)
   rw [hft, q108] at hfl
   have HFT := jh hft
   have c0 : wr.cell? ⟨b', off + k, none⟩ = some xv := by
    have h := hcell k (by rw [HLN.out]; exact hlk)
    rw [hxv] at h
    rw [← h]
    exact HE.out.cell (p := ⟨b', off + k, none⟩) hbs
   have HFL : Hid ((ls.take k).flatten.length + (lk.map bval).length ≤ 1099511627776) := jh (by rw [q101]; have := HB.out; omega)
   clear hcell hxv hlk2 hft hfl
   go_wp2_with (at_builtin; refine zam rfl _ _ 46 rfl w.heap.size 5 i0 (.int .u8 0) 1 q107 HI0.out HZ0.out HZ1.out HZ2.out rfl _ _ _ rfl HO.out rfl HXR.out (zaf _) (by have := HFL.out; unfold maxLen; omega) (by have := HFL.out; omega) HS.out ?_; intro v3 w3 hown3 hgrow3)
   go_roundw
   case rel =>
    refine ⟨k + 1, by omega, by go_num, ?_, ext_own HE.out HO.out (q102 _) hgrow3⟩
    rw [HFT.out, q134, q108]
    rw [q101] at hown3
    exact hown3
   case measure => simp [intOf]; omega
  ·have hk2 : (ls.length : Int) ≤ (k : Int) := by omega
   have hke : k = ls.length := by omega
   have hrw := Row1.of_own HO.out
   rw [hke, q173] at hrw
   have HR := jh hrw
   clear hrw
   clear HO hke
   go_wp2_with fail
   go_ret
   exact ⟨_, rfl, HR.out, HE.out⟩
section
theorem splice_bytes (l c : List UInt8) (f : Nat) : splice (l.map bval) f (c.map bval) = (l.take f ++ c ++ l.drop (f + c.length)).map bval := by
 unfold splice
 simp
section
variable {P : Program}
theorem grown_setRow (w : World) (g : Nat) (cs : Array Value) : w.grownBy (w.setRow g cs) (some g) :=
 ⟨rfl, rfl, rfl, by simp [World.setRow], fun k _ hk => setRow_other w g k cs (fun e => hk (by rw [e]))⟩
theorem wp_copy_blk {w : World} {o : Oper} {a : Act} {K : Act → World → Prop} {Q : Exit → Act → World → Prop} (d s : Operand) (dT sT : TypeId)
  (ho : o.op = .call { callee := .builtin .copy, args := #[d, s], argTypes := #[dT, sT] }) (elem : TypeId) (hu : P.underlying dT = some (.slice elem)) (hsz : (P.info? elem).map (·.size) = some 1)
  (dp sp : Option Addr) (dLen dCap sLen sCap : Nat) (hd : a.eval d = .slice dp dLen dCap) (hs : a.eval s = .slice sp sLen sCap)
  (g off : Nat) (cur : List Value) (t : TypeId) (hg : Blk w g cur t) (cs : List Value) (hn : cs.length = Nat.min sLen dLen)
  (hpos : 0 < cs.length → dp = some ⟨g, off, none⟩ ∧ ∃ ad, sp = some ad ∧ ∀ j v, cs[j]? = some v → w.cell? (ad.add j) = some v)
  (hfit : off + cs.length ≤ cur.length) (h1 : ∀ v ∈ cs, v.oneCell' = true)
  (h : ∀ w', Blk w' g (splice cur off cs) t → w.grownBy w' (some g) → K (a.put o.dst (goInt cs.length)) w') : o.wp P a w K Q := by
 by_cases h0 : cs.length = 0
 ·obtain rfl : cs = [] := q179 h0
  have hrun := run_copy_none (P := P) w dT sT o.type elem dp sp dLen dCap sLen sCap hu hsz (by simpa using hn.symm)
  unfold Oper.wp
  simp [execOp, ho, resolve, invoke, builtin, hd, hs, hrun, Result.andThen]
  exact h w (by simpa [splice] using hg) (World.grownBy.refl _ _)
 ·obtain ⟨rfl, ad, rfl, hsrc⟩ := hpos (by omega)
  have hrun := run_copy_row (P := P) w dT sT o.type elem g off dLen dCap ad sLen sCap cur.toArray t cs hu hsz hg hn hsrc (by simpa using hfit) h1
  unfold Oper.wp
  simp [execOp, ho, resolve, invoke, builtin, hd, hs, hrun, Result.andThen]
  exact h _ (show _ = _ by simpa [splice] using setRow_heap w g _ _ t _ hg) (grown_setRow _ _ _)
end
end
theorem sha512_take (m : List UInt8) : (sha512 m).take 64 = sha512 m := q110 (by rw [zbx]; exact q102 _)
theorem rwide_f (v : Value) (ls : List (List UInt8)) (w : World) (hv : RowB w v ls) (hl : ls.flatten.length ≤ 1099511627776) (hK : GlobK5 w) (hO : GlobO w) : Calls Tryz.prog 58 #[v] w fun e w' => e = .returned (.agg ((wideB ls.flatten).map bval).toArray) ∧ Below w.heap.size w w' := by
 have HV := jh hv
 have HLL := jh hl
 have HK := jh hK
 have HGO := jh hO
 have HB := jh (zfo w (ints .u8 (List.replicate 32 0)) 23)
 clear hv hl hK hO
 go_enter Tryz.func58, Tryz.ntmps58
 go_upto_region 1 with (fail)
 obtain ⟨H1, HE⟩ := HB.out
 change Code.wp _ _ _ _ (w.alloc (.cells (ints .u8 (List.replicate 32 0)).toArray 23))
 generalize w.alloc (.cells (ints .u8 (List.replicate 32 0)).toArray 23) = wa at *
 obtain ⟨A, hA⟩ : ∃ A, A = w.heap.size := ⟨_, rfl⟩
 have HO : Hid (w.heap.size ≤ A) := jh (by omega)
 rw [← hA] at H1 ⊢
 have HR := jh H1
 have HE : Hid (Ext w wa) := jh HE
 clear hA HB H1
 go_wp2_with fail
 refine (join_any v ls wa (HV.out.below HE.out) HLL.out).mono ?_
 rintro e wb ⟨x, rfl, hx, hb⟩
 have HX := jh hx
 have HR := xb HR hb
 have HE := xt HE hb
 clear hx hb
 go_wp2_with fail
 refine (rShb_any x ls.flatten wb HX.out HLL.out (HK.out.ext HE.out)).mono ?_
 rintro e wc ⟨rfl, hb⟩
 have HR := xb HR hb
 have HE := xt HE hb
 clear hb HX
 have HSL := jh (zbx ls.flatten)
 have HWB : Hid (wideB ls.flatten = nq (leN ((sha512 ls.flatten).take 64) : Nat)) := jh (by rw [sha512_take]; rfl)
 generalize sha512 ls.flatten = h at *
 have HZ := jh (Blk.made wc (ints .u8 (List.replicate 64 0)) 26)
 have HEA := jh (Ext.alloc wc (.cells (ints .u8 (List.replicate 64 0)).toArray 26))
 have HL : Hid ((h.map bval).length = (ints .u8 (List.replicate 64 0)).length) := jh (by rw [q101, HSL.out, zaa]; rfl)
 go_upto_region 2 with (refine ssb wc.heap.size (h.map bval) HZ.out HL.out (zcg HSL.out) (zaf _) ?_; intro wd hb2 hg2)
 have HXX := jh (zab HEA.out hg2 (q102 _))
 have HR := xb HR HXX.out
 have HE := xt HE HXX.out
 generalize wc.heap.size = S at *
 have HSR := jh (zdi (n := 64) hb2 (by rw [q101, HSL.out]) (by unfold maxLen; omega))
 clear hb2 hg2 HZ HEA HXX HL
 go_wp2_with fail
 refine (rReduce_num _ h wd HSR.out (HGO.out.ext HE.out)).mono ?_
 rintro e we ⟨rfl, hb⟩
 have HR := xb HR hb
 have HE := xt HE hb
 clear hb HSR
 rw [← HWB.out]
 have HWL := jh (zcd ls.flatten)
 have HL : Hid (((wideB ls.flatten).map bval).length = (ints .u8 (List.replicate 32 0)).length) := jh (by rw [q101, HWL.out, zaa]; rfl)
 go_wp2_with (refine ssb A ((wideB ls.flatten).map bval) HR.out HL.out (zac HWL.out) (zaf _) ?_; intro w9 hb9 hg9)
 refine bodyPost_ret (zbc rfl _ A _ _ _ _ rfl hb9 q100 (zac HWL.out)) rfl ⟨rfl, zab HE.out hg9 HO.out⟩
theorem rCanon_num (l : List UInt8) (w : World) (hl : l.length = 32) :
  Calls Tryz.prog 77 #[.agg (l.map bval).toArray] w fun e w' => e = .returned (numP (leN l)) ∧ Below w.heap.size w w' := by
 have HL := jh hl
 have HBX := jh (boxes2 w (l.map bval) (ints .u8 (List.replicate 32 0)) 23 23)
 have HI1 : Hid ((Tryz.prog.info? 23).map (·.size) = some (l.map bval).length) := jh (by rw [q101, hl]; exact Tryz.arr23)
 have HI3 : Hid ((Tryz.prog.info? 23).map (·.size) = some ((bytesN 32 ((leN l : Int) % pP).toNat).map bval).length) := jh (by rw [q101, zav]; exact Tryz.arr23)
 have HIN := jh (rin_el l ((w.alloc (.cells (l.map bval).toArray 23)).alloc (.cells (ints .u8 (List.replicate 32 0)).toArray 23)) hl)
 clear hl
 go_enter Tryz.func77, Tryz.ntmps77
 go_wp2_with (refine slb w.heap.size HBX.out.1 q100 HI1.out ?_)
 change Calls _ _ _ ((w.alloc (.cells (l.map bval).toArray 23)).alloc (.cells (ints .u8 (List.replicate 32 0)).toArray 23)) _
 generalize (w.alloc (.cells (l.map bval).toArray 23)).alloc (.cells (ints .u8 (List.replicate 32 0)).toArray 23) = w0 at *
 obtain ⟨h1, h2, h3⟩ := HBX.out
 obtain ⟨A, hA⟩ : ∃ A, A = w.heap.size := ⟨_, rfl⟩
 rw [← hA] at h1 h2 ⊢
 have hA2 : w.heap.size ≤ A := by omega
 have H2 := jh h2
 have H3 := jh h3
 clear h1 h2 h3 HBX hA
 refine HIN.out.mono ?_
 rintro e w1 ⟨r1, rfl, e1, b1⟩
 have HO := jh (rout_any r1 _ w1 e1)
 have HB1 := jh b1
 clear b1 e1
 go_wp2_with fail
 refine HO.out.mono ?_
 rintro e w2 ⟨rfl, b2⟩
 have HB2 := jh (HB1.out.trans (b2.mono HB1.out.size))
 have H22 := jh (bl_blk H2.out HB2.out)
 have hl5 : Hid (((bytesN 32 ((leN l : Int) % pP).toNat).map bval).length = (ints .u8 (List.replicate 32 0)).length) := jh (by rw [q101, zav]; rfl)
 clear b2
 go_wp2_with (refine ssb (A + 1) _ H22.out hl5.out HI3.out (zaf _) ?_; intro w5 hb5 hg5)
 exact bodyPost_ret (v := numP (leN l)) (zbc (by rfl) _ (A + 1) _ _ _ _ (by rfl) hb5 q100 HI3.out) rfl ⟨rfl, (H3.out.trans (HB2.out.mono H3.out.size)).grown hg5 (q121 H3.out.size HB2.out.size) (fun r hr => by cases hr; omega)⟩
