/- Texts that belong together, one behind the other. -/
import Derived.Test.YthafgicndklgfaaGreatDoorQz05
import Derived.Test.YthafgicndklgfaaGreatDoorQz13
namespace Go.Proofs.YthafgicndklgfaaGreatDoor
set_option linter.unusedVariables false
set_option maxRecDepth 100000
set_option maxHeartbeats 32000000
set_option linter.unusedSimpArgs false
open Go.RowKit
theorem fars_glob {c b : Nat} {w wa w' : World} {v : Value} {vs : List Value} (h : w.rangeAt b 0 (v :: vs)) (he : Ext w wa) (hc : w.heap.size ≤ c) (hf : Far c wa w') : w'.rangeAt b 0 (v :: vs) := by
 obtain ⟨wx, h1, h2⟩ := hf
 rcases h2 with h2 | h2
 ·rw [h2]
  exact zfn h (he.trans h1)
 ·exact zfn h (zad (he.trans h1) h2 hc)
theorem es_zero : (⟨0, fp 1, fp 1, 0⟩ : ES) = esZero := by rw [fp_one]; rfl
theorem es_base : (⟨fp bX, fp bY, fp 1, fp bX * fp bY⟩ : ES) = bP.es := by rw [fp_one]; rfl
theorem z16_el : ElL (List.replicate 16 0) 0 := ⟨by simp, el_zero⟩
theorem rnought_f (w : World) : Calls Tryz.prog 70 #[] w fun e w' => ∃ r, e = .returned r ∧ PtV r esZero ∧ Below w.heap.size w w' := by
 have HB := jh (zfu w (ints .i64 (List.replicate 64 0)) 70)
 go_enter Tryz.func70, Tryz.ntmps70
 go_upto_region 1 with (fail)
 obtain ⟨H1, HE⟩ := HB.out
 change Code.wp _ _ _ _ (w.alloc (.cells (ints .i64 (List.replicate 64 0)).toArray 70))
 generalize w.alloc (.cells (ints .i64 (List.replicate 64 0)).toArray 70) = wa at *
 obtain ⟨A, hA⟩ : ∃ A, A = w.heap.size := ⟨_, rfl⟩
 have HO : Hid (w.heap.size ≤ A) := jh (by omega)
 rw [← hA] at H1 ⊢
 have HR := jh H1
 have HE : Hid (Ext w wa) := jh HE
 clear hA HB H1
 go_wp2_with fail
 refine (rone_f 1 wa (by omega) (by omega)).mono ?_
 rintro e wb ⟨r, rfl, hr, hb⟩
 obtain ⟨z1, rfl, e1⟩ := hr.toL
 have HE := jh (HE.out.trans hb)
 have HR := jh (zaa HR.out hb)
 have HE1 := jh e1
 clear hb hr e1
 go_wp2_with fail
 refine (rone_f 1 wb (by omega) (by omega)).mono ?_
 rintro e wc ⟨r, rfl, hr, hb⟩
 obtain ⟨z2, rfl, e2⟩ := hr.toL
 have HE := jh (HE.out.trans hb)
 have HR := jh (zaa HR.out hb)
 have HE2 := jh e2
 clear hb hr e2
 have HZ : Hid (PtZ (List.replicate 16 0) z1 z2 (List.replicate 16 0) ⟨0, fp 1, fp 1, 0⟩) := jh ⟨z16_el, HE1.out, HE2.out, z16_el⟩
 have HL : Hid ((ptC (List.replicate 16 0) z1 z2 (List.replicate 16 0)).length = (ints .i64 (List.replicate 64 0)).length) := jh (by rw [zci HZ.out, zac]; rfl)
 go_wp2_with (first | (refine zaw rfl 70 #[(0, _), (1, _), (2, _), (3, _)] rfl #[(0, .agg (ints .i64 (List.replicate 16 0)).toArray), (1, .agg (ints .i64 z1).toArray), (2, .agg (ints .i64 z2).toArray), (3, .agg (ints .i64 (List.replicate 16 0)).toArray)] (by simp [Act.eval]; try rfl) _ (build_pt HZ.out _) ?_) | (refine zab rfl _ _ _ rfl A (ptC (List.replicate 16 0) z1 z2 (List.replicate 16 0)) rfl rfl _ _ HR.out HL.out (zcw HZ.out) (zfa _ _ _ _) ?_; intro wd hb4 hg4))
 refine bodyPost_ret (result_pt rfl _ A _ _ rfl hb4 Tryz.underlying70 (zcw HZ.out)) rfl ?_
 exact ⟨_, rfl, ⟨_, _, _, _, rfl, by rw [← es_zero]; exact HZ.out⟩, zad HE.out hg4 HO.out⟩
theorem rbase_f (w : World) (hX : GlobX w) (hY : GlobY w) : Calls Tryz.prog 37 #[] w fun e w' => ∃ r, e = .returned r ∧ PtV r bP.es ∧ Below w.heap.size w w' := by
 have HB := jh (zfu w (ints .i64 (List.replicate 64 0)) 70)
 have HGX := jh hX
 have HGY := jh hY
 clear hX hY
 go_enter Tryz.func37, Tryz.ntmps37
 go_upto_region 1 with (fail)
 obtain ⟨H1, HE⟩ := HB.out
 change Code.wp _ _ _ _ (w.alloc (.cells (ints .i64 (List.replicate 64 0)).toArray 70))
 generalize w.alloc (.cells (ints .i64 (List.replicate 64 0)).toArray 70) = wa at *
 obtain ⟨A, hA⟩ : ∃ A, A = w.heap.size := ⟨_, rfl⟩
 have HO : Hid (w.heap.size ≤ A) := jh (by omega)
 have HLT : Hid (∀ g, g < w.heap.size → A ≠ g) := jh (fun g hg => by omega)
 rw [← hA] at H1 ⊢
 have HR := jh H1
 have HE : Hid (Ext w wa) := jh HE
 clear hA HB H1
 have B0 : Ext wa wa.drew := Ext.drew _
 refine wp_region_held_drew (S := fun w' => Far (A) wa w') (by kernel_rfl) (zbx B0) (fun hHeld => ?_)
 refine tke 0 (.agg (ints .i64 bxL).toArray) rfl (yieldsIf_load_mid (by rfl) _ _ rfl 0 0 rfl _ _ (fun w h => fars_glob (HGX.out) HE.out HO.out h) Tryz.underlying68 rfl (zau bx_el.len)) hHeld ?_
 simp only [Act.put, nrm]
 refine tke 1 (.agg (ints .i64 byL).toArray) rfl (yieldsIf_load_mid (by rfl) _ _ rfl 1 0 rfl _ _ (fun w h => fars_glob (HGY.out) HE.out HO.out h) Tryz.underlying68 rfl (zau by_el.len)) hHeld ?_
 simp only [Act.put, nrm]
 refine tke 3 (.agg (ints .i64 bxL).toArray) rfl (yieldsIf_load_mid (by rfl) _ _ rfl 0 0 rfl _ _ (fun w h => fars_glob (HGX.out) HE.out HO.out h) Tryz.underlying68 rfl (zau bx_el.len)) hHeld ?_
 simp only [Act.put, nrm]
 refine tke 4 (.agg (ints .i64 byL).toArray) rfl (yieldsIf_load_mid (by rfl) _ _ rfl 1 0 rfl _ _ (fun w h => fars_glob (HGY.out) HE.out HO.out h) Tryz.underlying68 rfl (zau by_el.len)) hHeld ?_
 simp only [Act.put, nrm]
 refine rdy 2 rfl fun K hK => ?_
 go_simp
 refine (rone_f 1 _ (by omega) (by omega)).mono ?_
 rintro e m1 ⟨v1, rfl, e1, b1⟩
 obtain ⟨z1, hz1, l1⟩ := e1.form
 subst hz1
 have N1 : Ext wa m1 := B0.trans b1
 refine hK.out _ _ (zbx N1) (fun hHeld => ?_)
 clear hK K
 try simp only [Act.put, nrm]
 refine rdy 5 rfl fun K hK => ?_
 go_simp
 refine (zcn _ bx_el.el by_el.el).mono ?_
 rintro e m2 ⟨v2, rfl, e2, b2⟩
 obtain ⟨z2, hz2, l2⟩ := e2.form
 subst hz2
 have N2 : Ext wa m2 := N1.trans b2
 refine hK.out _ _ (zbx N2) (fun hHeld => ?_)
 clear hK K
 try simp only [Act.put, nrm]
 refine tke 6 (.agg (ptC bxL byL z1 z2).toArray) rfl (yi_build _ _ _ _ (build_pt (⟨⟨bx_el.len, bx_el.el⟩, ⟨by_el.len, by_el.el⟩, ⟨l1, e1⟩, ⟨l2, e2⟩⟩ : PtZ bxL byL z1 z2 ⟨fp bX, fp bY, fp 1, fp bX * fp bY⟩)) (by rfl) rfl (by simp [Act.eval])) hHeld ?_
 simp only [Act.put, nrm]
 refine rdy 7 rfl fun K hK => ?_
 refine zan (by rfl) ?_
 refine zak _ _ _ rfl (A) (ptC bxL byL z1 z2) rfl rfl _ _ (zaa HR.out N2) (by rw [zci ((⟨⟨bx_el.len, bx_el.el⟩, ⟨by_el.len, by_el.el⟩, ⟨l1, e1⟩, ⟨l2, e2⟩⟩ : PtZ bxL byL z1 z2 ⟨fp bX, fp bY, fp 1, fp bX * fp bY⟩)), zac]; rfl) (zcw ((⟨⟨bx_el.len, bx_el.el⟩, ⟨by_el.len, by_el.el⟩, ⟨l1, e1⟩, ⟨l2, e2⟩⟩ : PtZ bxL byL z1 z2 ⟨fp bX, fp bY, fp 1, fp bX * fp bY⟩))) (zfa _ _ _ _) ?_
 intro m3 hb3 hg3
 refine hK.out _ _ (zdk N2 hg3) (fun hHeld => ?_)
 clear hK K
 try simp only [Act.put, nrm]
 refine dne ?_
 go_wp2_with fail
 refine bodyPost_ret (result_pt rfl _ A _ _ rfl hb3 Tryz.underlying70 (zcw (⟨⟨bx_el.len, bx_el.el⟩, ⟨by_el.len, by_el.el⟩, ⟨l1, e1⟩, ⟨l2, e2⟩⟩ : PtZ bxL byL z1 z2 ⟨fp bX, fp bY, fp 1, fp bX * fp bY⟩))) rfl ?_
 exact ⟨_, rfl, ⟨_, _, _, _, rfl, by rw [← es_base]; exact (⟨⟨bx_el.len, bx_el.el⟩, ⟨by_el.len, by_el.el⟩, ⟨l1, e1⟩, ⟨l2, e2⟩⟩ : PtZ bxL byL z1 z2 ⟨fp bX, fp bY, fp 1, fp bX * fp bY⟩)⟩, zad (HE.out.trans N2) hg3 HO.out⟩
theorem rmany_f (v : Value) (s : ES) (nb : List UInt8) (w : World) (hv : PtV v s) (hn : nb.length = 32) (hG : GlobD w) : Calls Tryz.prog 36 #[v, .agg (nb.map bval).toArray] w fun e w' => ∃ r, e = .returned r ∧ PtV r (erun 256 s (leN nb) 256) ∧ Below w.heap.size w w' := by
 obtain ⟨pa, pb, pc, pd, rfl, hp⟩ := hv
 have HPZ := jh hp
 have HNL := jh hn
 have HG0 := jh hG
 have HB := jh (boxes3 w (ptC pa pb pc pd) (nb.map bval) (ints .i64 (List.replicate 64 0)) 70 23 70)
 clear hp hn hG
 go_enter Tryz.func36, Tryz.ntmps36
 go_upto_region 1 with (fail)
 obtain ⟨H1, H2, H3, HE⟩ := HB.out
 change Code.wp _ _ _ _ (((w.alloc (.cells (ptC pa pb pc pd).toArray 70)).alloc (.cells (nb.map bval).toArray 23)).alloc (.cells (ints .i64 (List.replicate 64 0)).toArray 70))
 generalize ((w.alloc (.cells (ptC pa pb pc pd).toArray 70)).alloc (.cells (nb.map bval).toArray 23)).alloc (.cells (ints .i64 (List.replicate 64 0)).toArray 70) = wa at *
 obtain ⟨A, hA⟩ : ∃ A, A = w.heap.size := ⟨_, rfl⟩
 have HO : Hid (w.heap.size ≤ A) := jh (by omega)
 rw [← hA] at H1 H2 H3 ⊢
 have HP : Hid (PtB wa A s) := jh ⟨_, _, _, _, H1, HPZ.out⟩
 have HN := jh H2
 have HR := jh H3
 have HE : Hid (Ext w wa) := jh HE
 clear hA HB H1 H2 H3 HPZ
 go_wp2_with fail
 refine (rnought_f wa).mono ?_
 rintro e wb ⟨r, rfl, hr, hb⟩
 obtain ⟨ra, rb, rc, rd, rfl, hz⟩ := hr
 have HP := jh (HP.out.ext hb)
 have HN := jh (zaa HN.out hb)
 have HR := jh (zaa HR.out hb)
 have HE := jh (HE.out.trans hb)
 have HZZ := jh hz
 clear hb hz
 have HZ := jh (Blk.made wb (ints .i64 (List.replicate 64 0)) 70)
 have HEA := jh (Ext.alloc wb (.cells (ints .i64 (List.replicate 64 0)).toArray 70))
 have HL : Hid ((ptC ra rb rc rd).length = (ints .i64 (List.replicate 64 0)).length) := jh (by rw [zci HZZ.out, zac]; rfl)
 go_upto_region 2 with (refine zab rfl _ _ _ rfl wb.heap.size (ptC ra rb rc rd) rfl rfl _ _ HZ.out HL.out (zcw HZZ.out) (zfa _ _ _ _) ?_; intro wc hb2 hg2)
 have HX := jh (zad HEA.out hg2 (Nat.le_refl _))
 obtain ⟨T, hT⟩ : ∃ T, T = wb.heap.size := ⟨_, rfl⟩
 rw [← hT] at hb2 ⊢
 have HO : Hid (w.heap.size ≤ A ∧ A + 1 + 1 < T) := jh ⟨HO.out, by rw [hT]; exact HR.out.lt⟩
 have HP := jh (HP.out.ext HX.out)
 have HN := jh (zaa HN.out HX.out)
 have HR := jh (zaa HR.out HX.out)
 have HE := jh (HE.out.trans HX.out)
 have HT : Hid (PtB wc T (erun 256 s (leN nb) 0)) := jh ⟨_, _, _, _, hb2, HZZ.out⟩
 clear hb2 hg2 HZ HEA HX hT HL HZZ
 go_wp2_with fail
 go_loopw [6] (fun i wr => ∃ k : Nat, k ≤ 256 ∧ i = .int .i64 (255 - (k : Int)) ∧ PtB wr T (erun 256 s (leN nb) k) ∧ PtB wr A s ∧ Blk wr (A + 1) (nb.map bval) 23 ∧ Blk wr (A + 1 + 1) (ints .i64 (List.replicate 64 0)) 70 ∧ Ext w wr) (fun i _ => (intOf i + 1).toNat)
 case atStart => exact ⟨0, by omega, rfl, HT.out, HP.out, HN.out, HR.out, HE.out⟩
 case round =>
  clear HT HP HN HR HE
  obtain ⟨k, hk, rfl, q1, q2, q3, q4, q5⟩ := hrel
  have i0' : (0 : Int) ≤ (k : Int) := Int.natCast_nonneg _
  obtain ⟨t, ht⟩ : ∃ t, t = erun 256 s (leN nb) k := ⟨_, rfl⟩
  rw [← ht] at q1
  have HTT := jh ht
  obtain ⟨ta, tb, tc, td, tB, tZ⟩ := q1
  have HT := jh tB
  have HTZ := jh tZ
  have HP := jh q2
  have HN := jh q3
  have HR := jh q4
  have HE := jh q5
  clear q2 q3 q4 q5 tB tZ ht
  by_cases hlt : k < 256
  ·have i1 : (0 : Int) ≤ 255 - (k : Int) := by omega
   have i2 : (k : Int) ≤ 255 := by omega
   go_wp2_with (first | (refine wpList_load_mid rfl _ _ rfl T 0 rfl _ _ HT.out.range Tryz.underlying70 rfl (zcw HTZ.out) ?_))
   refine (rsum_f _ _ t t wr ⟨_, _, _, _, rfl, HTZ.out⟩ ⟨_, _, _, _, rfl, HTZ.out⟩ (HG0.out.ext HE.out)).mono ?_
   rintro e w1 ⟨r, rfl, hr, hb⟩
   obtain ⟨sa, sb, sc, sd, rfl, hz⟩ := hr
   have HT := jh (zaa HT.out hb)
   have HP := jh (HP.out.ext hb)
   have HN := jh (zaa HN.out hb)
   have HR := jh (zaa HR.out hb)
   have HE := jh (HE.out.trans hb)
   have HSZ := jh hz
   clear hb hz
   have HL : Hid ((ptC sa sb sc sd).length = (ptC ta tb tc td).length) := jh (by rw [zci HSZ.out, zci HTZ.out])
   go_upto_region 6 with (refine zab rfl _ _ _ rfl T (ptC sa sb sc sd) rfl rfl _ _ HT.out HL.out (zcw HSZ.out) (zfa _ _ _ _) ?_; intro w2 hb2 hg2)
   have HP := jh (HP.out.grown hg2 (by have := HO.out; simp; omega))
   have HN := jh (HN.out.grown hg2 (by have := HO.out; simp; omega))
   have HR := jh (HR.out.grown hg2 (by have := HO.out; simp; omega))
   have HE := jh (zad HE.out hg2 (by have := HO.out; omega))
   have HT := jh hb2
   clear hb2 hg2 HL HTZ
   have e1 := HN.out.cell ((255 - k) / 8)
   rw [zbu (by have := HNL.out; omega)] at e1
   generalize hbt : (nb.getD ((255 - k) / 8) 0).toNat = bt at *
   have s1 : ((255 - (k : Int)) / 8).toNat = (255 - k) / 8 := by omega
   have s2 : (0 : Int) ≤ (255 - (k : Int)) / 8 := by omega
   have s3 : (255 - (k : Int)) / 8 < 32 := by omega
   have s4 : (0 : Int) ≤ (255 - (k : Int)) % 8 := by omega
   have s5 : (255 - (k : Int)) % 8 < 8 := by omega
   have s6 : ((255 - (k : Int)) % 8).toNat = (255 - k) % 8 := by omega
   have hbit := leN_bit nb (255 - k) (by have := HNL.out; omega)
   rw [hbt] at hbit
   have hcast : (bt : Int) / 2 ^ ((255 - k) % 8) = ((bt / 2 ^ ((255 - k) % 8) : Nat) : Int) := by
    rw [Int.natCast_ediv, Int.natCast_pow]
    rfl
   have htb : (leN nb).testBit (255 - k) = decide (leN nb / 2 ^ (255 - k) % 2 = 1) := Nat.testBit_eq_decide_div_mod_eq
   have HRUN : Hid (erun 256 s (leN nb) (k + 1) = if decide (leN nb / 2 ^ (255 - k) % 2 = 1) = true then (t.sum t).sum s else t.sum t) := jh (by rw [erun, HTT.out, ← htb])
   by_cases hb1 : leN nb / 2 ^ (255 - k) % 2 = 1
   ·have hq : bits .and .u8 ((bt : Int) / 2 ^ ((255 - k) % 8)) 1 = 1 := by
     rw [hcast, andU1, ← hbit, hb1]
     rfl
    have HF : Hid (erun 256 s (leN nb) (k + 1) = (t.sum t).sum s) := jh (by rw [HRUN.out, if_pos (decide_eq_true hb1)])
    clear hbit hcast htb hbt hb1 HRUN
    go_upto_region 7 with (fail)
    clear hq e1 s1 s2 s3 s4 s5 s6
    obtain ⟨pa, pb, pc, pd, pB, pZ⟩ := HP.out
    have HPB := jh pB
    have HPZ := jh pZ
    clear pB pZ
    go_wp2_with (first | (refine wpList_load_mid rfl _ _ rfl T 0 rfl _ _ HT.out.range Tryz.underlying70 rfl (zcw HSZ.out) ?_) | (refine wpList_load_mid rfl _ _ rfl A 0 rfl _ _ HPB.out.range Tryz.underlying70 rfl (zcw HPZ.out) ?_))
    refine (rsum_f _ _ (t.sum t) s w2 ⟨_, _, _, _, rfl, HSZ.out⟩ ⟨_, _, _, _, rfl, HPZ.out⟩ (HG0.out.ext HE.out)).mono ?_
    rintro e w3 ⟨r, rfl, hr, hb⟩
    obtain ⟨xa, xb, xc, xd, rfl, hz⟩ := hr
    have HT := jh (zaa HT.out hb)
    have HP := jh (HP.out.ext hb)
    have HN := jh (zaa HN.out hb)
    have HR := jh (zaa HR.out hb)
    have HE := jh (HE.out.trans hb)
    have HXZ := jh hz
    clear hb hz HPB HPZ
    have HL : Hid ((ptC xa xb xc xd).length = (ptC sa sb sc sd).length) := jh (by rw [zci HSZ.out, zci HXZ.out])
    go_wp2_with (refine zab rfl _ _ _ rfl T (ptC xa xb xc xd) rfl rfl _ _ HT.out HL.out (zcw HXZ.out) (zfa _ _ _ _) ?_; intro w4 hb2 hg2)
    go_roundw
    case rel => exact ⟨k + 1, by omega, by go_num, by rw [HF.out]; exact ⟨_, _, _, _, hb2, HXZ.out⟩, HP.out.grown hg2 (by have := HO.out; simp; omega), HN.out.grown hg2 (by have := HO.out; simp; omega), HR.out.grown hg2 (by have := HO.out; simp; omega), zad HE.out hg2 (by have := HO.out; omega)⟩
    case measure => simp [intOf]; omega
   ·have hb0 : leN nb / 2 ^ (255 - k) % 2 = 0 := by omega
    have hq : bits .and .u8 ((bt : Int) / 2 ^ ((255 - k) % 8)) 1 = 0 := by
     rw [hcast, andU1, ← hbit, hb0]
     rfl
    have HF : Hid (erun 256 s (leN nb) (k + 1) = t.sum t) := jh (by rw [HRUN.out, if_neg (by rw [decide_eq_false hb1]; decide)])
    clear hbit hcast htb hbt hb1 hb0 HRUN
    go_wp2_with fail
    go_roundw
    case rel => exact ⟨k + 1, by omega, by go_num, by rw [HF.out]; exact ⟨_, _, _, _, HT.out, HSZ.out⟩, HP.out, HN.out, HR.out, HE.out⟩
    case measure => simp [intOf]; omega
  ·have hk' : k = 256 := by omega
   subst hk'
   have HL : Hid ((ptC ta tb tc td).length = (ints .i64 (List.replicate 64 0)).length) := jh (by rw [zci HTZ.out, zac]; rfl)
   go_wp2_with (first | (refine wpList_load_mid rfl _ _ rfl T 0 rfl _ _ HT.out.range Tryz.underlying70 rfl (zcw HTZ.out) ?_) | (refine zab rfl _ _ _ rfl (A + 1 + 1) (ptC ta tb tc td) rfl rfl _ _ HR.out HL.out (zcw HTZ.out) (zfa _ _ _ _) ?_; intro w4 hb4 hg4))
   refine bodyPost_ret (result_pt rfl _ (A + 1 + 1) _ _ rfl hb4 Tryz.underlying70 (zcw HTZ.out)) rfl ?_
   exact ⟨_, rfl, ⟨_, _, _, _, rfl, by rw [← HTT.out]; exact HTZ.out⟩, zad HE.out hg4 (by have := HO.out; omega)⟩
theorem rwritten_f (v : Value) (s : ES) (P : Pt) (w : World) (hv : PtV v s) (hs : s.is P) : Calls Tryz.prog 35 #[v] w fun e w' => e = .returned (.agg ((encB P).map bval).toArray) ∧ Below w.heap.size w w' := by
 obtain ⟨pa, pb, pc, pd, rfl, hp⟩ := hv
 obtain ⟨z1, z2, z3, z4⟩ := id hp
 have Hpx := jh z1
 have Hpy := jh z2
 have Hpz := jh z3
 have Hpt := jh z4
 have HIS := jh hs
 clear z1 z2 z3 z4 hp hs
 have HB := jh (boxes2 w (ptC pa pb pc pd) (ints .u8 (List.replicate 32 0)) 70 23)
 go_enter Tryz.func35, Tryz.ntmps35
 go_upto_region 1 with (fail)
 obtain ⟨H1, H2, HE⟩ := HB.out
 change Code.wp _ _ _ _ ((w.alloc (.cells (ptC pa pb pc pd).toArray 70)).alloc (.cells (ints .u8 (List.replicate 32 0)).toArray 23))
 generalize (w.alloc (.cells (ptC pa pb pc pd).toArray 70)).alloc (.cells (ints .u8 (List.replicate 32 0)).toArray 23) = wa at *
 obtain ⟨A, hA⟩ : ∃ A, A = w.heap.size := ⟨_, rfl⟩
 have HO : Hid (w.heap.size ≤ A) := jh (by omega)
 rw [← hA] at H1 H2 ⊢
 have HP := jh H1
 have HR := jh H2
 have HE : Hid (Ext w wa) := jh HE
 clear hA HB H1 H2
 go_wp2_with (refine wpList_load_mid rfl _ _ rfl A 32 rfl _ _ (rng_z (HP.out) Hpx.out.len Hpy.out.len) Tryz.underlying68 rfl (zau Hpz.out.len) ?_)
 refine (rinv_f wa Hpz.out.el).mono ?_
 rintro e wl1 ⟨r, rfl, hr, hb⟩
 obtain ⟨z, hz, lz⟩ := hr.form
 subst hz
 have HP := jh (zaa HP.out hb)
 have HR := jh (zaa HR.out hb)
 have HE := jh (HE.out.trans hb)
 clear hb
 have HZ := jh (Blk.made wl1 (ints .i64 (List.replicate 16 0)) 68)
 have HEA := jh (Ext.alloc wl1 (.cells (ints .i64 (List.replicate 16 0)).toArray 68))
 have HI := jh (zau lz)
 have HL : Hid ((ints .i64 z).length = (ints .i64 (List.replicate 16 0)).length) := jh (by rw [zac, lz]; rfl)
 go_upto_region 2 with (refine zab rfl _ _ _ rfl wl1.heap.size (ints .i64 z) rfl rfl _ _ HZ.out HL.out HI.out (zao _ _) ?_; intro wl2 hbm hgm)
 have HX := jh (zad HEA.out hgm (Nat.le_refl _))
 obtain ⟨TZz, hT⟩ : ∃ T, T = wl1.heap.size := ⟨_, rfl⟩
 have HTZz : Hid (A + 1 < TZz) := jh (by rw [hT]; exact HR.out.lt)
 rw [← hT] at hbm ⊢
 have HP := jh (zaa HP.out HX.out)
 have HR := jh (zaa HR.out HX.out)
 have HE := jh (HE.out.trans HX.out)
 have EZz : Hid (ElB wl2 TZz (fi s.z)) := jh ⟨z, lz, hbm, hr⟩
 have HO := jh (And.intro HO.out HTZz.out)
 clear hbm hgm HZ HEA HX hT hr HI HL lz
 obtain ⟨zZz, lZz, bZz, eZz⟩ := EZz.out
 have HbZz := jh bZz
 have HeZz := jh eZz
 have HlZz := jh lZz
 have HiZz := jh (zau lZz)
 clear bZz eZz lZz
 go_wp2_with (first | (refine wpList_load_mid rfl _ _ rfl A 0 rfl _ _ (rng_x (HP.out)) Tryz.underlying68 rfl (zau Hpx.out.len) ?_) | (refine zae rfl _ _ rfl TZz rfl _ _ _ _ HbZz.out Tryz.underlying68 HiZz.out ?_))
 refine (zcn wl2 Hpx.out.el HeZz.out).mono ?_
 rintro e wl3 ⟨r, rfl, hr, hb⟩
 obtain ⟨z, hz, lz⟩ := hr.form
 subst hz
 rw [is_x HIS.out] at hr
 have EZz := jh (EZz.out.ext hb)
 have HP := jh (zaa HP.out hb)
 have HR := jh (zaa HR.out hb)
 have HE := jh (HE.out.trans hb)
 clear hb
 have HRR := jh hr
 clear hr
 go_wp2_with fail
 refine (rout_f wl3 HRR.out).mono ?_
 rintro e wl4 ⟨rfl, hb⟩
 have EZz := jh (EZz.out.ext hb)
 have HP := jh (zaa HP.out hb)
 have HR := jh (zaa HR.out hb)
 have HE := jh (HE.out.trans hb)
 clear hb HRR lz
 have HZ := jh (Blk.made wl4 (ints .u8 (List.replicate 32 0)) 23)
 have HEA := jh (Ext.alloc wl4 (.cells (ints .u8 (List.replicate 32 0)).toArray 23))
 have HL : Hid (((nbF P.x).map bval).length = (ints .u8 (List.replicate 32 0)).length) := jh (by rw [List.length_map, zag, zac]; rfl)
 go_upto_region 3 with (refine zab rfl _ _ _ rfl wl4.heap.size ((nbF P.x).map bval) rfl rfl _ _ HZ.out HL.out (zaf (zag _)) (zaj _) ?_; intro wl5 hb2 hg2)
 have HX := jh (zad HEA.out hg2 (Nat.le_refl _))
 obtain ⟨Xn, hT⟩ : ∃ T, T = wl4.heap.size := ⟨_, rfl⟩
 have HTXn : Hid (TZz < Xn) := jh (by rw [hT]; exact EZz.out.lt)
 rw [← hT] at hb2 ⊢
 have EZz := jh (EZz.out.ext HX.out)
 have HP := jh (zaa HP.out HX.out)
 have HR := jh (zaa HR.out HX.out)
 have HE := jh (HE.out.trans HX.out)
 have HXn := jh hb2
 have HO := jh (And.intro HO.out HTXn.out)
 clear hb2 hg2 HZ HEA HX hT HL
 obtain ⟨zZz, lZz, bZz, eZz⟩ := EZz.out
 have HbZz := jh bZz
 have HeZz := jh eZz
 have HlZz := jh lZz
 have HiZz := jh (zau lZz)
 clear bZz eZz lZz
 go_wp2_with (first | (refine wpList_load_mid rfl _ _ rfl A 16 rfl _ _ (rng_y (HP.out) Hpx.out.len) Tryz.underlying68 rfl (zau Hpy.out.len) ?_) | (refine zae rfl _ _ rfl TZz rfl _ _ _ _ HbZz.out Tryz.underlying68 HiZz.out ?_))
 refine (zcn wl5 Hpy.out.el HeZz.out).mono ?_
 rintro e wl6 ⟨r, rfl, hr, hb⟩
 obtain ⟨z, hz, lz⟩ := hr.form
 subst hz
 rw [is_y HIS.out] at hr
 have EZz := jh (EZz.out.ext hb)
 have HP := jh (zaa HP.out hb)
 have HR := jh (zaa HR.out hb)
 have HE := jh (HE.out.trans hb)
 have HXn := jh (zaa HXn.out hb)
 clear hb
 have HRR := jh hr
 clear hr
 go_wp2_with fail
 refine (rout_f wl6 HRR.out).mono ?_
 rintro e wl7 ⟨rfl, hb⟩
 have EZz := jh (EZz.out.ext hb)
 have HP := jh (zaa HP.out hb)
 have HR := jh (zaa HR.out hb)
 have HE := jh (HE.out.trans hb)
 have HXn := jh (zaa HXn.out hb)
 clear hb HRR lz
 have HZ := jh (Blk.made wl7 (ints .u8 (List.replicate 32 0)) 23)
 have HEA := jh (Ext.alloc wl7 (.cells (ints .u8 (List.replicate 32 0)).toArray 23))
 have HL : Hid (((nbF P.y).map bval).length = (ints .u8 (List.replicate 32 0)).length) := jh (by rw [List.length_map, zag, zac]; rfl)
 go_upto_region 4 with (refine zab rfl _ _ _ rfl wl7.heap.size ((nbF P.y).map bval) rfl rfl _ _ HZ.out HL.out (zaf (zag _)) (zaj _) ?_; intro wl8 hb2 hg2)
 have HX := jh (zad HEA.out hg2 (Nat.le_refl _))
 obtain ⟨Yn, hT⟩ : ∃ T, T = wl7.heap.size := ⟨_, rfl⟩
 have HTYn : Hid (Xn < Yn) := jh (by rw [hT]; exact HXn.out.lt)
 rw [← hT] at hb2 ⊢
 have EZz := jh (EZz.out.ext HX.out)
 have HP := jh (zaa HP.out HX.out)
 have HR := jh (zaa HR.out HX.out)
 have HE := jh (HE.out.trans HX.out)
 have HXn := jh (zaa HXn.out HX.out)
 have HYn := jh hb2
 have HO := jh (And.intro HO.out HTYn.out)
 clear hb2 hg2 HZ HEA HX hT HL
 have hodd := nbF_odd P.x
 have c0 := HXn.out.cell 0
 rw [zbu (by rw [zag]; omega)] at c0
 have c1 := HYn.out.cell 31
 rw [zbu (by rw [zag]; omega)] at c1
 have f1 := HYn.out.free 31
 have HEL := jh (zcs P)
 have hpar : P.x.val % 2 = 1 ∨ P.x.val % 2 = 0 := by omega
 rcases hpar with hpar | hpar
 ·have hq : bits .and .u8 (((nbF P.x).getD 0 0).toNat : Int) 1 = 1 := by
   rw [andU1, hodd, hpar]
   rfl
  have HX1 : Hid (((nbF P.y).map bval).set 31 (.int .u8 (bits .or .u8 (((nbF P.y).getD 31 0).toNat : Int) 128)) = (encB P).map bval) := jh (by
   have e1 := u8_or ((nbF P.y).getD 31 0) 128
   rw [show (128 : Int) = ((128 : UInt8).toNat : Int) from rfl, e1, u8_set, enc_odd hpar])
  clear hodd hpar
  generalize (((nbF P.x).getD 0 0).toNat : Int) = q0 at *
  generalize (((nbF P.y).getD 31 0).toNat : Int) = q1 at *
  have hsh : (1 : Int) * 2 ^ 7 = 128 := by decide
  go_upto_region 5 with (fail)
  have HM := jh (HYn.out.set 31 (.int .u8 (bits .or .u8 q1 128)))
  rw [HX1.out] at HM
  have HR := jh (HR.out.far (a := ⟨Yn, 31, none⟩) (by have := HO.out; simp; omega) (.int .u8 (bits .or .u8 q1 128)))
  have HE := jh (Below.setCell HE.out (p := ⟨Yn, 31, none⟩) (by have := HO.out; simp; omega) (.int .u8 (bits .or .u8 q1 128)))
  generalize bits .or .u8 q1 128 = v1 at *
  generalize wl8.setCell ⟨Yn, 31, none⟩ (.int .u8 v1) = wz at *
  have HE : Hid (Ext w wz) := jh HE.out
  clear c0 c1 f1 HX1
  have HL : Hid (((encB P).map bval).length = (ints .u8 (List.replicate 32 0)).length) := jh (by rw [List.length_map, HEL.out, zac]; rfl)
  go_wp2_with (first | (refine zae rfl _ _ rfl Yn rfl _ _ _ _ HM.out Tryz.underlying23 (zaf HEL.out) ?_) | (refine zab rfl _ _ _ rfl (A + 1) ((encB P).map bval) rfl rfl _ _ HR.out HL.out (zaf HEL.out) (zaj _) ?_; intro w9 hb9 hg9))
  refine bodyPost_ret (zbn rfl _ (A + 1) _ _ _ _ rfl hb9 Tryz.underlying23 (zaf HEL.out)) rfl ?_
  exact ⟨rfl, zad HE.out hg9 (by have := HO.out; omega)⟩
 ·have hq : bits .and .u8 (((nbF P.x).getD 0 0).toNat : Int) 1 = 0 := by
   rw [andU1, hodd, hpar]
   rfl
  have HX1 : Hid (((nbF P.y).map bval).set 31 (.int .u8 (bits .or .u8 (((nbF P.y).getD 31 0).toNat : Int) 0)) = (encB P).map bval) := jh (by
   have e1 := u8_or ((nbF P.y).getD 31 0) 0
   rw [show (0 : Int) = ((0 : UInt8).toNat : Int) from rfl, e1, u8_set, enc_even hpar])
  clear hodd hpar
  generalize (((nbF P.x).getD 0 0).toNat : Int) = q0 at *
  generalize (((nbF P.y).getD 31 0).toNat : Int) = q1 at *
  go_upto_region 5 with (fail)
  have HM := jh (HYn.out.set 31 (.int .u8 (bits .or .u8 q1 0)))
  rw [HX1.out] at HM
  have HR := jh (HR.out.far (a := ⟨Yn, 31, none⟩) (by have := HO.out; simp; omega) (.int .u8 (bits .or .u8 q1 0)))
  have HE := jh (Below.setCell HE.out (p := ⟨Yn, 31, none⟩) (by have := HO.out; simp; omega) (.int .u8 (bits .or .u8 q1 0)))
  generalize bits .or .u8 q1 0 = v1 at *
  generalize wl8.setCell ⟨Yn, 31, none⟩ (.int .u8 v1) = wz at *
  have HE : Hid (Ext w wz) := jh HE.out
  clear c0 c1 f1 HX1
  have HL : Hid (((encB P).map bval).length = (ints .u8 (List.replicate 32 0)).length) := jh (by rw [List.length_map, HEL.out, zac]; rfl)
  go_wp2_with (first | (refine zae rfl _ _ rfl Yn rfl _ _ _ _ HM.out Tryz.underlying23 (zaf HEL.out) ?_) | (refine zab rfl _ _ _ rfl (A + 1) ((encB P).map bval) rfl rfl _ _ HR.out HL.out (zaf HEL.out) (zaj _) ?_; intro w9 hb9 hg9))
  refine bodyPost_ret (zbn rfl _ (A + 1) _ _ _ _ rfl hb9 Tryz.underlying23 (zaf HEL.out)) rfl ?_
  exact ⟨rfl, zad HE.out hg9 (by have := HO.out; omega)⟩
theorem rclamped_any (kb : List UInt8) (w : World) (hk : kb.length = 32) : Calls Tryz.prog 66 #[.agg (kb.map bval).toArray] w fun e w' => e = .returned (.agg ((clampB kb).map bval).toArray) ∧ Below w.heap.size w w' := by
 have HB := jh (boxes2 w (kb.map bval) (ints .u8 (List.replicate 32 0)) 23 23)
 have HKL := jh hk
 clear hk
 go_enter Tryz.func66, Tryz.ntmps66
 go_upto_region 1 with (fail)
 obtain ⟨H1, H2, HE⟩ := HB.out
 change Code.wp _ _ _ _ ((w.alloc (.cells (kb.map bval).toArray 23)).alloc (.cells (ints .u8 (List.replicate 32 0)).toArray 23))
 generalize (w.alloc (.cells (kb.map bval).toArray 23)).alloc (.cells (ints .u8 (List.replicate 32 0)).toArray 23) = wa at *
 obtain ⟨A, hA⟩ : ∃ A, A = w.heap.size := ⟨_, rfl⟩
 have HAW : Hid (w.heap.size ≤ A) := jh (by omega)
 rw [← hA] at H1 H2 ⊢
 have H1 := jh H1
 have H2 := jh H2
 have HE : Hid (Ext w wa) := jh HE
 clear hA HB
 obtain ⟨k1, hk1⟩ : ∃ k1, k1 = kb.set 0 (kb.getD 0 0 &&& 248) := ⟨_, rfl⟩
 have HX1 : Hid ((kb.map bval).set 0 (.int .u8 (bits .and .u8 ((kb.getD 0 0).toNat : Int) 248)) = k1.map bval) := jh (by
  have e1 := u8_and (kb.getD 0 0) 248
  rw [show (248 : Int) = ((248 : UInt8).toNat : Int) from rfl, e1, u8_set, hk1])
 have HL1 : Hid (k1.length = 32) := jh (by rw [hk1, List.length_set, HKL.out])
 have HX2 : Hid ((k1.map bval).set 31 (.int .u8 (bits .or .u8 (bits .and .u8 ((k1.getD 31 0).toNat : Int) 127) 64)) = (clampB kb).map bval) := jh (by
  have e1 := u8_and (k1.getD 31 0) 127
  have e2 := u8_or (k1.getD 31 0 &&& 127) 64
  rw [show (127 : Int) = ((127 : UInt8).toNat : Int) from rfl, show (64 : Int) = ((64 : UInt8).toNat : Int) from rfl, e1, e2, u8_set, hk1]
  rfl)
 have HCL := jh (zdl HKL.out)
 obtain ⟨cl, hcl⟩ : ∃ cl, cl = clampB kb := ⟨_, rfl⟩
 rw [← hcl] at HCL HX2
 have HCE := jh hcl
 clear hcl
 clear hk1
 have c1 := H1.out.cell 0
 rw [zbu (by rw [HKL.out]; omega)] at c1
 have f1 := H1.out.free 0
 generalize ((kb.getD 0 0).toNat : Int) = q1 at *
 go_upto_region 2 with (fail)
 have HM := jh (H1.out.set 0 (.int .u8 (bits .and .u8 q1 248)))
 rw [HX1.out] at HM
 have H2 := jh (H2.out.far (a := ⟨A, 0, none⟩) (by simp) (.int .u8 (bits .and .u8 q1 248)))
 have HE := jh (Below.setCell HE.out (p := ⟨A, 0, none⟩) (by have := HAW.out; simp; omega) (.int .u8 (bits .and .u8 q1 248)))
 generalize bits .and .u8 q1 248 = v1 at *
 generalize wa.setCell ⟨A, 0, none⟩ (.int .u8 v1) = wb at *
 clear c1 f1 HX1 H1
 have c1 := HM.out.cell 31
 rw [zbu (by rw [HL1.out]; omega)] at c1
 have f1 := HM.out.free 31
 generalize ((k1.getD 31 0).toNat : Int) = q2 at *
 go_upto_region 3 with (fail)
 have HM2 := jh (HM.out.set 31 (.int .u8 (bits .or .u8 (bits .and .u8 q2 127) 64)))
 rw [HX2.out] at HM2
 have H2 := jh (H2.out.far (a := ⟨A, 31, none⟩) (by simp) (.int .u8 (bits .or .u8 (bits .and .u8 q2 127) 64)))
 have HE := jh (Below.setCell HE.out (p := ⟨A, 31, none⟩) (by have := HAW.out; simp; omega) (.int .u8 (bits .or .u8 (bits .and .u8 q2 127) 64)))
 generalize bits .or .u8 (bits .and .u8 q2 127) 64 = v2 at *
 generalize wb.setCell ⟨A, 31, none⟩ (.int .u8 v2) = wc at *
 clear c1 f1 HX2 HM
 have HE : Hid (Ext w wc) := jh HE.out
 have HI : Hid ((Tryz.prog.info? 23).map (·.size) = some (cl.map bval).length) := jh (zaf HCL.out)
 have HLo : Hid ((cl.map bval).length = (ints .u8 (List.replicate 32 0)).length) := jh (by rw [List.length_map, HCL.out, zac, List.length_replicate])
 go_wp2_with (first | (refine zae rfl _ _ rfl A rfl _ _ _ _ HM2.out Tryz.underlying23 HI.out ?_) | (refine zab rfl _ _ _ rfl (A + 1) (cl.map bval) rfl rfl _ _ H2.out HLo.out HI.out (zaj _) ?_; intro w5 hb5 hg5))
 refine bodyPost_ret (zbn rfl _ (A + 1) _ _ _ _ rfl hb5 Tryz.underlying23 HI.out) rfl ?_
 exact ⟨by rw [HCE.out], zad HE.out hg5 (by have := HAW.out; omega)⟩
section
theorem splice_bytes (l c : List UInt8) (f : Nat) : splice (l.map bval) f (c.map bval) = (l.take f ++ c ++ l.drop (f + c.length)).map bval := by
 unfold splice
 simp
section
variable {P : Program}
theorem grown_setRow (w : World) (g : Nat) (cs : Array Value) : w.grownBy (w.setRow g cs) (some g) :=
 ⟨rfl, rfl, rfl, by simp [World.setRow], fun k _ hk => setRow_other w g k cs (fun e => hk (by rw [e]))⟩
theorem wp_copy_blk {w : World} {o : Oper} {a : Act} {K : Act → World → Prop} {Q : Exit → Act → World → Prop} (d s : Operand) (dT sT : TypeId)
  (ho : o.op = .call { callee := .builtin .copy, args := #[d, s], argTypes := #[dT, sT] }) (elem : TypeId) (hu : P.underlying dT = some (.slice elem)) (hsz : (P.info? elem).map (·.size) = some 1)
  (dp sp : Option Addr) (dLen dCap sLen sCap : Nat) (hd : a.eval d = .slice dp dLen dCap) (hs : a.eval s = .slice sp sLen sCap)
  (g off : Nat) (cur : List Value) (t : TypeId) (hg : Blk w g cur t) (cs : List Value) (hn : cs.length = Nat.min sLen dLen)
  (hpos : 0 < cs.length → dp = some ⟨g, off, none⟩ ∧ ∃ ad, sp = some ad ∧ ∀ j v, cs[j]? = some v → w.cell? (ad.add j) = some v)
  (hfit : off + cs.length ≤ cur.length) (h1 : ∀ v ∈ cs, v.oneCell' = true)
  (h : ∀ w', Blk w' g (splice cur off cs) t → w.grownBy w' (some g) → K (a.put o.dst (goInt cs.length)) w') : o.wp P a w K Q := by
 by_cases h0 : cs.length = 0
 ·obtain rfl : cs = [] := List.eq_nil_of_length_eq_zero h0
  have hrun := run_copy_none (P := P) w dT sT o.type elem dp sp dLen dCap sLen sCap hu hsz (by simpa using hn.symm)
  unfold Oper.wp
  simp [execOp, ho, resolve, invoke, builtin, hd, hs, hrun, Result.andThen]
  exact h w (by simpa [splice] using hg) (World.grownBy.refl _ _)
 ·obtain ⟨rfl, ad, rfl, hsrc⟩ := hpos (by omega)
  have hrun := run_copy_row (P := P) w dT sT o.type elem g off dLen dCap ad sLen sCap cur.toArray t cs hu hsz hg hn hsrc (by simpa using hfit) h1
  unfold Oper.wp
  simp [execOp, ho, resolve, invoke, builtin, hd, hs, hrun, Result.andThen]
  exact h _ (show _ = _ by simpa [splice] using setRow_heap w g _ _ t _ hg) (grown_setRow _ _ _)
end
end
theorem u8_one : (Tryz.prog.info? 5).map (·.size) = some 1 := by kernel_rfl
theorem rparts_f (s : List UInt8) (w : World) (hs : s.length = 32) (hK : GlobK5 w) : Calls Tryz.prog 34 #[.agg (s.map bval).toArray] w fun e w' => ∃ x, e = .returned (.tuple #[.agg ((secA s).map bval).toArray, x]) ∧ Row1 w' x ((secH s).map bval) ∧ Below w.heap.size w w' := by
 obtain ⟨i0, hi, hz0, hz1, hz2⟩ := info_parts Tryz.info5
 have HI0 := jh hi
 have HZ0 := jh hz0
 have HZ1 := jh hz1
 have HZ2 := jh hz2
 have HSL := jh hs
 have HK := jh hK
 have HB := jh (boxes2 w (s.map bval) (ints .u8 (List.replicate 32 0)) 23 23)
 clear hi hz0 hz1 hz2 hs hK
 go_enter Tryz.func34, Tryz.ntmps34
 go_upto_region 1 with (fail)
 obtain ⟨H1, H2, HE⟩ := HB.out
 change Code.wp _ _ _ _ ((w.alloc (.cells (s.map bval).toArray 23)).alloc (.cells (ints .u8 (List.replicate 32 0)).toArray 23))
 generalize (w.alloc (.cells (s.map bval).toArray 23)).alloc (.cells (ints .u8 (List.replicate 32 0)).toArray 23) = wa at *
 obtain ⟨A, hA⟩ : ∃ A, A = w.heap.size := ⟨_, rfl⟩
 have HAW : Hid (w.heap.size ≤ A) := jh (by omega)
 rw [← hA] at H1 H2 ⊢
 have HSR := jh (zcm (n := 32) H1 (by rw [List.length_map, HSL.out]) (by unfold maxLen; omega))
 have HR := jh H2
 have HE : Hid (Ext w wa) := jh HE
 clear hA HB H1 H2
 go_wp2_with fail
 refine (rShb_any _ s wa HSR.out (by rw [HSL.out]; omega) (HK.out.ext HE.out)).mono ?_
 rintro e wb ⟨rfl, hb⟩
 have HR := jh (zaa HR.out hb)
 have HE := jh (HE.out.trans hb)
 clear hb HSR
 have HHL := jh (zcg s)
 have HSA : Hid (secA s = clampB ((sha512 s).take 32)) := jh rfl
 have HSH : Hid (secH s = (sha512 s).drop 32) := jh rfl
 generalize sha512 s = h at *
 have HZ := jh (Blk.made wb (ints .u8 (List.replicate 64 0)) 26)
 have HEA := jh (Ext.alloc wb (.cells (ints .u8 (List.replicate 64 0)).toArray 26))
 have HL : Hid ((h.map bval).length = (ints .u8 (List.replicate 64 0)).length) := jh (by rw [List.length_map, HHL.out, zac]; rfl)
 go_upto_region 2 with (refine zab rfl _ _ _ rfl wb.heap.size (h.map bval) rfl rfl _ _ HZ.out HL.out (zct HHL.out) (zaj _) ?_; intro w2 hb2 hg2)
 have HX := jh (zad HEA.out hg2 (Nat.le_refl _))
 obtain ⟨S, hS⟩ : ∃ S, S = wb.heap.size := ⟨_, rfl⟩
 have HAS : Hid (A + 1 < S) := jh (by rw [hS]; exact HR.out.lt)
 have HR := jh (zaa HR.out HX.out)
 have HE := jh (HE.out.trans HX.out)
 rw [← hS] at hb2 ⊢
 have H4 := jh hb2
 clear hb2 hg2 HZ HEA HX HL hS
 have HXA := Ext.alloc w2 (.cells (ints .u8 (List.replicate 32 0)).toArray 23)
 obtain ⟨O, hO⟩ : ∃ O, O = w2.heap.size := ⟨_, rfl⟩
 have HOA : Hid (A + 1 < O ∧ S < O ∧ w.heap.size ≤ O) := jh (by have := H4.out.lt; have := HE.out.size; have := HAS.out; omega)
 have H5 : Hid (Blk (w2.alloc (.cells (ints .u8 (List.replicate 32 0)).toArray 23)) O ((List.replicate 32 (0 : UInt8)).map bval) 23) := jh (by rw [hO]; exact Blk.made w2 (ints .u8 (List.replicate 32 0)) 23)
 have HR := jh (zaa HR.out HXA)
 have H4 := jh (zaa H4.out HXA)
 have HE := jh (HE.out.trans HXA)
 clear HXA
 go_upto_region 3 with (fail)
 change Code.wp _ _ _ _ (w2.alloc (.cells (ints .u8 (List.replicate 32 0)).toArray 23))
 rw [← hO]
 clear hO
 generalize w2.alloc (.cells (ints .u8 (List.replicate 32 0)).toArray 23) = w3 at *
 refine zal 2 1 2 rfl (by kernel_rfl) (by kernel_rfl) (fun d v c a w h => by cases d <;> exact h) (by kernel_rfl) ?_
 refine zbj (.slice (some ⟨O, 0, none⟩) 32 32) (by rfl) (fun w hw => by go_simp) ?_
 simp only [Act.put, nrm]
 refine zbj (.slice (some ⟨S, 0, none⟩) 32 64) (by rfl) (fun w hw => by go_simp) ?_
 simp only [Act.put, nrm]
 refine zba (end_store (k := 2) rfl (by kernel_rfl) (by kernel_rfl) (by kernel_rfl) rfl (fun w4 hw4 => ?_))
 have HR := jh (zaa HR.out hw4)
 have H4 := jh (zaa H4.out hw4)
 have H5 := jh (zaa H5.out hw4)
 have HE := jh (HE.out.trans hw4)
 clear hw4
 have HTL : Hid ((h.take 32).length = 32) := jh (by rw [List.length_take, HHL.out]; rfl)
 refine wp_copy_blk _ _ 46 46 rfl 5 Tryz.underlying46 u8_one _ _ _ _ _ _ rfl rfl O 0 _ _ H5.out ((h.take 32).map bval) (by rw [List.length_map, HTL.out]; rfl) (fun _ => ⟨rfl, ⟨S, 0, none⟩, rfl, fun j v hj => ?_⟩) (by rw [List.length_map, HTL.out]; simp) (zaj _) ?_
 ·have hj2 : j < 32 := by
   rcases Nat.lt_or_ge j 32 with h' | h'
   ·exact h'
   ·rw [List.getElem?_eq_none (by rw [List.length_map, HTL.out]; omega)] at hj; cases hj
  rw [WideShapes.add_plain, Nat.zero_add, H4.out.cell, ← hj, List.getElem?_map, List.getElem?_map, List.getElem?_take, if_pos hj2]
 intro w5 hb5 hg5
 have e32 : splice ((List.replicate 32 (0 : UInt8)).map bval) 0 ((h.take 32).map bval) = (h.take 32).map bval := by
  rw [splice_bytes, HTL.out]
  simp
 rw [e32] at hb5
 have HR := jh (HR.out.grown hg5 (by have := HOA.out; simp; omega))
 have H4 := jh (H4.out.grown hg5 (by have := HOA.out; simp; omega))
 have HE := jh (zad HE.out hg5 HOA.out.2.2)
 have H5 := jh hb5
 clear hb5 hg5 e32
 generalize goInt ((h.take 32).map bval).length = g1
 simp only [Act.put, nrm]
 have HCL := jh (zdl HTL.out)
 rw [← HSA.out] at HCL
 have HC : Hid (∀ w, Calls Tryz.prog 66 #[.agg ((h.take 32).map bval).toArray] w fun e w' => e = .returned (.agg ((secA s).map bval).toArray) ∧ Below w.heap.size w w') := jh (fun w => by rw [HSA.out]; exact rclamped_any _ w HTL.out)
 have HRS : Hid (Row1 w5 (.slice (some ⟨S, 32, none⟩) 32 32) ((h.drop 32).map bval)) := jh (by
  have h1 := row_cut Tryz.underlying46 Tryz.sizeOf5 (zcm (n := 64) H4.out (by rw [List.length_map, HHL.out]) (by unfold maxLen; omega)) 32 (by rw [List.length_map, HHL.out]; omega)
  refine ⟨some ⟨S, 32, none⟩, 32, by rw [List.length_map, List.length_drop, HHL.out], by rw [List.length_map, List.length_drop, HHL.out]; omega, by unfold maxLen; omega, (fun e => by cases e), fun _ => ⟨S, 32, rfl, H4.out.lt, fun i hi => ?_⟩⟩
  rw [H4.out.cell, List.getElem?_map, List.getElem?_map, List.getElem?_drop])
 have HDL : Hid ((h.drop 32).length = 32) := jh (by rw [List.length_drop, HHL.out])
 have HO : Hid (A + 1 < O) := jh HOA.out.1
 generalize h.take 32 = ht at *
 generalize h.drop 32 = hd at *
 go_upto_region 4 with (fail)
 have rs := HRS.out
 have B0 : Ext w5 w5.drew := Ext.drew _
 refine wp_region_held_drew (S := fun w' => Far (A + 1) w5 w') (by kernel_rfl) (zbx B0) (fun hHeld => ?_)
 have rs := rs.below (Ext.drew _)
 refine tke 0 (.agg ((ht).map bval).toArray) rfl (yieldsIf_load_mid (by rfl) _ _ rfl O 0 rfl _ _ (fun w h => zbr H5.out (by have := HO.out; omega) h) Tryz.underlying23 rfl (zaf HTL.out)) hHeld ?_
 simp only [Act.put, nrm]
 refine tke 2 (.slice (some ⟨S, 32, none⟩) 32 32) rfl (zew _ _ _ _ (.pointer (some ⟨S, 0, none⟩)) (.slice (some ⟨S, 32, none⟩) 32 32) (some (.int .i64 32)) none (by rfl) rfl rfl rfl rfl (fun w => by go_simp)) hHeld ?_
 simp only [Act.put, nrm]
 refine rdy 1 rfl fun K hK => ?_
 go_simp
 refine (HC.out _).mono ?_
 rintro e m1 ⟨rfl, b1⟩
 have rs := rs.below b1
 have N1 : Ext w5 m1 := B0.trans b1
 refine hK.out _ _ (zbx N1) (fun hHeld => ?_)
 clear hK K
 try simp only [Act.put, nrm]
 refine rdy 3 rfl fun K hK => ?_
 refine zan (by rfl) ?_
 refine wp_append_row _ _ 46 rfl (m1).heap.size 5 i0 (.int .u8 0) 1 Tryz.underlying46 HI0.out HZ0.out HZ1.out HZ2.out rfl (.slice none 0 0) 0 [] rfl (World.ownsRow_nil _ _ _ _) rfl rs (zaj _) (by rw [List.length_map, HDL.out]; unfold maxLen; omega) (by rw [List.length_map, HDL.out]; omega) (Nat.le_refl _) ?_
 intro v2 m2 ho2 hg2
 have b2 : Ext m1 m2 := zfp (Ext.refl _) (World.ownsRow_nil _ _ 5 _) (Nat.le_refl _) hg2
 have rs := rs.below b2
 rw [List.nil_append] at ho2
 have r2 : Row1 m2 v2 ((hd).map bval) := Row1.of_own ho2
 have N2 : Ext w5 m2 := N1.trans b2
 have own_far : Hid (v2.ownBlock ≠ some (A + 1)) := jh (Row1.own_ne ho2 (by have := HOA.out; have := H5.out.lt; have := N1.size; omega))
 refine hK.out _ _ (zbx N2) (fun hHeld => ?_)
 clear hK K
 try simp only [Act.put, nrm]
 refine rdy 4 rfl fun K hK => ?_
 refine zan (by rfl) ?_
 refine zak _ _ _ rfl (A + 1) ((secA s).map bval) rfl rfl _ _ (zaa HR.out N2) (by rw [List.length_map, HCL.out, zac]; rfl) (zaf (HCL.out)) (zaj _) ?_
 intro m3 hb3 hg3
 refine hK.out _ _ (zdk N2 hg3) (fun hHeld => ?_)
 clear hK K
 try simp only [Act.put, nrm]
 refine rdy 5 rfl fun K hK => ?_
 go_simp
 refine hK.out _ _ (zdk N2 hg3) (fun hHeld => ?_)
 clear hK K
 try simp only [Act.put, nrm]
 refine dne ?_
 go_wp2_with fail
 refine bodyPost_ret (zar rfl _ (A + 1) _ _ _ rfl hb3 Tryz.underlying23 rfl (zaf HCL.out)) rfl ?_
 refine ⟨_, rfl, ?_, zad (HE.out.trans N2) hg3 (by have := HAW.out; omega)⟩
 rw [HSH.out]
 exact r2.grown hg3 (fun k hk e => by cases hk; exact own_far.out e)
theorem rpublic_f (s : List UInt8) (w : World) (hs : s.length = 32) (hK : GlobK5 w) (hD : GlobD w) (hX : GlobX w) (hY : GlobY w) : Calls Tryz.prog 15 #[.agg (s.map bval).toArray] w fun e w' => e = .returned (.agg ((edPub s).map bval).toArray) ∧ Below w.heap.size w w' := by
 have HSL := jh hs
 have HK := jh hK
 have HGD := jh hD
 have HGX := jh hX
 have HGY := jh hY
 have HB := jh (boxes2 w (s.map bval) (ints .u8 (List.replicate 32 0)) 23 23)
 clear hs hK hD hX hY
 go_enter Tryz.func15, Tryz.ntmps15
 go_upto_region 1 with (fail)
 obtain ⟨H1, H2, HE⟩ := HB.out
 change Code.wp _ _ _ _ ((w.alloc (.cells (s.map bval).toArray 23)).alloc (.cells (ints .u8 (List.replicate 32 0)).toArray 23))
 generalize (w.alloc (.cells (s.map bval).toArray 23)).alloc (.cells (ints .u8 (List.replicate 32 0)).toArray 23) = wa at *
 obtain ⟨A, hA⟩ : ∃ A, A = w.heap.size := ⟨_, rfl⟩
 have HAW : Hid (w.heap.size ≤ A) := jh (by omega)
 rw [← hA] at H1 H2 ⊢
 have HS := jh H1
 have HR := jh H2
 have HE : Hid (Ext w wa) := jh HE
 clear hA HB H1 H2
 go_wp2_with (refine zae rfl _ _ rfl A rfl _ _ _ _ HS.out Tryz.underlying23 (zaf HSL.out) ?_)
 refine (rparts_f s wa HSL.out (HK.out.ext HE.out)).mono ?_
 rintro e wb ⟨x, rfl, hx, hb⟩
 have HR := jh (zaa HR.out hb)
 have HE := jh (HE.out.trans hb)
 clear hx hb HS
 have HAL : Hid ((secA s).length = 32) := jh (by unfold secA; exact zdl (by rw [List.length_take, zcg]; rfl))
 have HPB : Hid (edPub s = encB (pmul (leN (secA s)) bP)) := jh rfl
 generalize secA s = a at *
 have HZ := jh (Blk.made wb (ints .u8 (List.replicate 32 0)) 23)
 have HEA := jh (Ext.alloc wb (.cells (ints .u8 (List.replicate 32 0)).toArray 23))
 have HL : Hid ((a.map bval).length = (ints .u8 (List.replicate 32 0)).length) := jh (by rw [List.length_map, HAL.out, zac]; rfl)
 go_upto_region 2 with (refine zab rfl _ _ _ rfl wb.heap.size (a.map bval) rfl rfl _ _ HZ.out HL.out (zaf HAL.out) (zaj _) ?_; intro wc hb2 hg2)
 have HXX := jh (zad HEA.out hg2 (Nat.le_refl _))
 obtain ⟨T, hT⟩ : ∃ T, T = wb.heap.size := ⟨_, rfl⟩
 have HO : Hid (A + 1 < T) := jh (by rw [hT]; exact HR.out.lt)
 have HR := jh (zaa HR.out HXX.out)
 have HE := jh (HE.out.trans HXX.out)
 rw [← hT] at hb2 ⊢
 have HT := jh hb2
 clear hb2 hg2 HZ HEA HXX HL hT
 have HIS := jh (erun_full (Pt.es_is bP) (m := 256) (n := leN a) (by have := leN_lt a; rw [HAL.out] at this; exact Nat.lt_of_lt_of_eq this (by decide +kernel)))
 have B0 : Ext wc wc.drew := Ext.drew _
 refine wp_region_held_drew (S := fun w' => Far (A + 1) wc w') (by kernel_rfl) (zbx B0) (fun hHeld => ?_)
 refine tke 1 (.agg ((a).map bval).toArray) rfl (yieldsIf_load_mid (by rfl) _ _ rfl T 0 rfl _ _ (fun w h => zbr HT.out (by have := HO.out; omega) h) Tryz.underlying23 rfl (zaf HAL.out)) hHeld ?_
 simp only [Act.put, nrm]
 refine rdy 0 rfl fun K hK => ?_
 go_simp
 refine (rbase_f _ (HGX.out.ext (HE.out.trans B0)) (HGY.out.ext (HE.out.trans B0))).mono ?_
 rintro e m1 ⟨v1, rfl, e1, b1⟩
 obtain ⟨a1, c1, d1, g1, hz1, z1⟩ := e1
 subst hz1
 have N1 : Ext wc m1 := B0.trans b1
 refine hK.out _ _ (zbx N1) (fun hHeld => ?_)
 clear hK K
 try simp only [Act.put, nrm]
 refine rdy 2 rfl fun K hK => ?_
 go_simp
 refine (rmany_f _ bP.es a _ (⟨_, _, _, _, rfl, z1⟩ : PtV _ (bP.es)) HAL.out (HGD.out.ext (HE.out.trans N1))).mono ?_
 rintro e m2 ⟨v2, rfl, e2, b2⟩
 obtain ⟨a2, c2, d2, g2, hz2, z2⟩ := e2
 subst hz2
 have N2 : Ext wc m2 := N1.trans b2
 refine hK.out _ _ (zbx N2) (fun hHeld => ?_)
 clear hK K
 try simp only [Act.put, nrm]
 refine rdy 3 rfl fun K hK => ?_
 go_simp
 refine (rwritten_f _ _ (pmul (leN a) bP) _ (⟨_, _, _, _, rfl, z2⟩ : PtV _ (erun 256 bP.es (leN a) 256)) HIS.out).mono ?_
 rintro e m3 ⟨rfl, b3⟩
 have N3 : Ext wc m3 := N2.trans b3
 refine hK.out _ _ (zbx N3) (fun hHeld => ?_)
 clear hK K
 try simp only [Act.put, nrm]
 refine rdy 4 rfl fun K hK => ?_
 refine zan (by rfl) ?_
 refine zak _ _ _ rfl (A + 1) ((encB (pmul (leN a) bP)).map bval) rfl rfl _ _ (zaa HR.out N3) (by rw [List.length_map, zcs, zac]; rfl) (zaf ((zcs _))) (zaj _) ?_
 intro m4 hb4 hg4
 refine hK.out _ _ (zdk N3 hg4) (fun hHeld => ?_)
 clear hK K
 try simp only [Act.put, nrm]
 refine dne ?_
 go_wp2_with fail
 refine bodyPost_ret (zbn rfl _ (A + 1) _ _ _ _ rfl hb4 Tryz.underlying23 (zaf (zcs _))) rfl ?_
 exact ⟨by rw [HPB.out], zad (HE.out.trans N3) hg4 (by have := HAW.out; omega)⟩
theorem crt_num_any (n : Int) (w : World) : Calls Tryz.prog 13 #[.int .i64 n] w fun e w' => e = .returned (.int .i64 n) ∧ Below w.heap.size w w' := by
 go_enter Tryz.func13, Tryz.ntmps13
 go_wp2_with fail
 go_ret
 exact ⟨rfl, Below.refl _ _⟩
theorem crt_build (q : Int) (w : World) : (Instr.build 23 #[(0, .int .u8 q)]).run Tryz.prog w = .ok (.agg (Value.int .u8 q :: List.replicate 31 (.int .u8 0)).toArray) w := by
 simp [Instr.build, Tryz.zeroValue23]
 rfl
theorem crt_sm (q : UInt8) (z : Int) (hz : z = (q.toNat : Int)) (w : World) : (Instr.build 23 #[(0, .int .u8 z)]).run Tryz.prog w = .ok (.agg ((smL q).map bval).toArray) w := by
 subst hz
 rw [crt_build]
 simp [smL, bval]
def GP (w : World) : Prop := GlobK5 w ∧ GlobD w ∧ GlobX w ∧ GlobY w
theorem GP.ext {w w' : World} (h : GP w) (hb : Ext w w') : GP w' := ⟨h.1.ext hb, h.2.1.ext hb, h.2.2.1.ext hb, h.2.2.2.ext hb⟩
theorem rpub_g (s : List UInt8) (w : World) (hs : s.length = 32) (hG : GP w) : Calls Tryz.prog 15 #[.agg (s.map bval).toArray] w fun e w' => e = .returned (.agg ((edPub s).map bval).toArray) ∧ Below w.heap.size w w' := rpublic_f s w hs hG.1 hG.2.1 hG.2.2.1 hG.2.2.2
theorem alive_any16 {MG : World → Prop} (SC : CrtSaid MG) (w : World) (hG : MG w) (hV : GP w) : Calls Tryz.prog 10 #[] w fun e w' => e = .returned (.bool true) ∧ Below w.heap.size w w' := by
 have HG := jh hG
 have HV := jh hV
 have HSC := jh SC
 have HL1 : Hid ((smL 1).length = 32) := jh (smL_length _)
 have HL2 : Hid ((smL 2).length = 32) := jh (smL_length _)
 have HP1 := jh (fun w hG => rpub_g (smL 1) w HL1.out hG)
 have HP2 := jh (fun w hG => rpub_g (smL 2) w HL2.out hG)
 have HK1 : Hid ((edPub (smL 1)).length = 32) := jh (edPub_length _)
 have HK2 : Hid ((edPub (smL 2)).length = 32) := jh (edPub_length _)
 have hy := sgn_yes (id := 7) (key := edPub (smL 2)) (by decide) (mayB_true (may_pub _)) (smL 1)
 have HSG := jh (fun w hG => SC.sign (smL 1) (edPub (smL 2)) 7 w HL1.out HK2.out ⟨by decide, by decide⟩ hG)
 rw [hy.1, hy.2.1, hy.2.2.1, hy.2.2.2] at HSG
 have HCY : Hid (certV (edPub (smL 1)) 7 (edPub (smL 2)) (certG (smL 1) 7 (edPub (smL 2))) = true) := jh (certV_sign (smL 1) (edPub (smL 2)) (by decide))
 have HCN : Hid (certV (edPub (smL 2)) 7 (edPub (smL 2)) (certG (smL 1) 7 (edPub (smL 2))) = false) := jh certV_other
 have HGL : Hid ((certG (smL 1) 7 (edPub (smL 2))).length = 64) := jh (certG_length _ _ _)
 generalize certG (smL 1) 7 (edPub (smL 2)) = g at *
 generalize edPub (smL 1) = p at *
 generalize edPub (smL 2) = k at *
 clear hG hV SC hy
 have HIK := jh (zaf HK2.out)
 have HLK : Hid ((k.map bval).length = (ints .u8 (List.replicate 32 0)).length) := jh (by rw [List.length_map, zac, HK2.out]; rfl)
 have HB1 := jh (fun w => crt_sm 1 1 rfl w)
 have HB2 := jh (fun w => crt_sm 2 2 rfl w)
 go_enter Tryz.func10, Tryz.ntmps10
 go_wp2_with (refine zaw rfl 23 #[(0, _)] rfl #[(0, .int .u8 2)] (by simp [Act.eval]) (.agg ((smL 2).map bval).toArray) (HB2.out _) ?_)
 refine (HP2.out w HV.out).mono ?_
 rintro e w1 ⟨rfl, hb⟩
 have HE := jh (show Ext w w1 from hb)
 clear hb HP2
 have HZ := jh (Blk.made w1 (ints .u8 (List.replicate 32 0)) 23)
 have HEA := jh (Ext.alloc w1 (.cells (ints .u8 (List.replicate 32 0)).toArray 23))
 go_upto_region 2 with (refine zab rfl _ _ _ rfl w1.heap.size (k.map bval) rfl rfl _ _ HZ.out HLK.out HIK.out (zaj _) ?_; intro w2 hb2 hg2)
 have HX := jh (zad HEA.out hg2 (Nat.le_refl _))
 have HE := jh (HE.out.trans HX.out)
 have HKB := jh hb2
 obtain ⟨D, hD⟩ : ∃ D, D = w1.heap.size := ⟨_, rfl⟩
 rw [← hD] at HKB ⊢
 clear hb2 hg2 HZ HEA HX hD
 go_wp2_with (first | (refine zaw rfl 23 #[(0, _)] rfl #[(0, .int .u8 1)] (by simp [Act.eval]) (.agg ((smL 1).map bval).toArray) (HB1.out _) ?_) | (refine zcf (by rfl) _ _ rfl D rfl _ _ _ _ HKB.out Tryz.underlying23 HIK.out ?_))
 refine (HSG.out w2 (HSC.out.ext HG.out HE.out)).mono ?_
 rintro e w3 ⟨rfl, hb⟩
 have HKB := jh (zaa HKB.out hb)
 have HE := jh (HE.out.trans hb)
 clear hb HSG
 have HZ := jh (Blk.made w3 (certC 0 z32 z64) 28)
 have HEA := jh (Ext.alloc w3 (.cells (certC 0 z32 z64).toArray 28))
 have HLC : Hid ((certC 7 k g).length = (certC 0 z32 z64).length) := jh (by rw [zce HK2.out HGL.out, zce zdd zbi])
 have HIC := jh (zdx (id := 7) HK2.out HGL.out)
 go_upto_region 3 with (refine zab rfl _ _ _ rfl w3.heap.size (certC 7 k g) rfl rfl _ _ HZ.out HLC.out HIC.out (zev _ _ _) ?_; intro w4 hb2 hg2)
 have HX := jh (zad HEA.out hg2 (Nat.le_refl _))
 have HN4 := jh HX.out
 have HKB := jh (zaa HKB.out HX.out)
 have HE := jh (HE.out.trans HX.out)
 have HCB := jh hb2
 obtain ⟨C, hC⟩ : ∃ C, C = w3.heap.size := ⟨_, rfl⟩
 rw [← hC] at HCB ⊢
 clear hb2 hg2 HZ HEA HX hC HN4
 have HCI := jh (cert_parts HCB.out HK2.out).1
 have HC1 := jh (fun (wx : World) (hx : Ext w4 wx) => HSC.out.check p k g 7 wx HK1.out HK2.out HGL.out ⟨by decide, by decide⟩ (HSC.out.ext HG.out (HE.out.trans hx)))
 have HC2 := jh (fun (wx : World) (hx : Ext w4 wx) => HSC.out.check k k g 7 wx HK2.out HK2.out HGL.out ⟨by decide, by decide⟩ (HSC.out.ext HG.out (HE.out.trans hx)))
 have HPX := jh (fun (wx : World) (hx : Ext w4 wx) => HP1.out wx (HV.out.ext (HE.out.trans hx)))
 rw [HCY.out] at HC1
 rw [HCN.out] at HC2
 have B0 : Ext w4 w4.drew := Ext.drew _
 refine wp_region_held_drew (S := fun w' => Ext w4 w') (by kernel_rfl) B0 (fun hHeld => ?_)
 refine tke 0 (.int .i64 0) rfl (zcb _ (.int .i64 0) (by rfl) rfl rfl) hHeld ?_
 simp only [Act.put, nrm]
 refine rdy 1 rfl fun K hK => ?_
 go_simp
 refine (crt_num_any (0) w4.drew).mono ?_
 rintro e m1 ⟨rfl, b1⟩
 have N1 : Ext w4 m1 := B0.trans b1
 refine hK.out _ _ N1 (fun hHeld => ?_)
 clear hK K
 try simp only [Act.put, nrm]
 refine tke 2 (.bool true) rfl (yi_eqi .i64 _ _ _ _ _ _ true (decide_eq_true (rfl)) (by rfl) rfl rfl rfl) hHeld ?_
 simp only [Act.put, nrm]
 refine tke 3 (.bool true) rfl (zcb _ (.bool true) (by rfl) rfl rfl) hHeld ?_
 simp only [Act.put, nrm]
 refine tke 4 (.pointer (some ⟨C, 0, none⟩)) rfl (zbl (.pointer (some ⟨C, 0, none⟩)) (by rfl) (fun w _ => by go_simp)) hHeld ?_
 simp only [Act.put, nrm]
 refine tke 5 (.int .i64 7) rfl (zbl (.int .i64 (7)) (by rfl) (fun w h => by have hc := (Below.cell h (World.block_lt_of_cell? _ _ HCI.out)).trans HCI.out; go_simp)) hHeld ?_
 simp only [Act.put, nrm]
 refine tke 6 (.bool true) rfl (yi_eqi .i64 _ _ _ _ _ _ true (decide_eq_true (rfl)) (by rfl) rfl rfl rfl) hHeld ?_
 simp only [Act.put, nrm]
 refine tke 7 (.bool true) rfl (yi_pick _ _ _ true _ (by rfl) rfl rfl rfl) hHeld ?_
 simp only [Act.put, nrm]
 refine tke 8 (.bool true) rfl (zcb _ (.bool true) (by rfl) rfl rfl) hHeld ?_
 simp only [Act.put, nrm]
 refine tke 9 (.agg ((smL 1).map bval).toArray) rfl (yi_build _ _ _ _ HB1.out (by rfl) rfl (by simp [Act.eval])) hHeld ?_
 simp only [Act.put, nrm]
 refine tke 11 (.agg (certC 7 k g).toArray) rfl (yieldsIf_load_mid (by rfl) _ _ rfl C 0 rfl _ _ (fun w h => zbe HCB.out h) Tryz.underlying28 rfl HIC.out) hHeld ?_
 simp only [Act.put, nrm]
 refine rdy 10 rfl fun K hK => ?_
 go_simp
 refine (HPX.out m1 N1).mono ?_
 rintro e m2 ⟨rfl, b2⟩
 have N2 : Ext w4 m2 := N1.trans b2
 refine hK.out _ _ N2 (fun hHeld => ?_)
 clear hK K
 try simp only [Act.put, nrm]
 refine rdy 12 rfl fun K hK => ?_
 go_simp
 refine (HC1.out m2 N2).mono ?_
 rintro e m3 ⟨rfl, b3⟩
 have N3 : Ext w4 m3 := N2.trans b3
 refine hK.out _ _ N3 (fun hHeld => ?_)
 clear hK K
 try simp only [Act.put, nrm]
 refine tke 13 (.bool true) rfl (yi_pick _ _ _ true _ (by rfl) rfl rfl rfl) hHeld ?_
 simp only [Act.put, nrm]
 refine tke 14 (.bool true) rfl (zcb _ (.bool true) (by rfl) rfl rfl) hHeld ?_
 simp only [Act.put, nrm]
 refine tke 15 (.agg ((k).map bval).toArray) rfl (yieldsIf_load_mid (by rfl) _ _ rfl D 0 rfl _ _ (fun w h => zbe HKB.out h) Tryz.underlying23 rfl HIK.out) hHeld ?_
 simp only [Act.put, nrm]
 refine tke 16 (.agg (certC 7 k g).toArray) rfl (yieldsIf_load_mid (by rfl) _ _ rfl C 0 rfl _ _ (fun w h => zbe HCB.out h) Tryz.underlying28 rfl HIC.out) hHeld ?_
 simp only [Act.put, nrm]
 refine rdy 17 rfl fun K hK => ?_
 go_simp
 refine (HC2.out m3 N3).mono ?_
 rintro e m4 ⟨rfl, b4⟩
 have N4 : Ext w4 m4 := N3.trans b4
 refine hK.out _ _ N4 (fun hHeld => ?_)
 clear hK K
 try simp only [Act.put, nrm]
 refine tke 18 (.bool true) rfl (yi_not _ _ false (by rfl) rfl rfl) hHeld ?_
 simp only [Act.put, nrm]
 refine tke 19 (.bool true) rfl (yi_pick _ _ _ true _ (by rfl) rfl rfl rfl) hHeld ?_
 simp only [Act.put, nrm]
 refine rdy 20 rfl fun K hK => ?_
 go_simp
 refine hK.out _ _ N4 (fun hHeld => ?_)
 clear hK K
 try simp only [Act.put, nrm]
 refine dne ?_
 have HN := jh (HE.out.trans N4)
 go_wp2_with fail
 go_ret
 exact ⟨rfl, HN.out⟩
end Go.Proofs.YthafgicndklgfaaGreatDoor
