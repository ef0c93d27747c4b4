/- Texts that belong together, one behind the other. -/
import Derived.Deep.CutRange
import Derived.Laws.ResultCell
import Derived.Deep.MidRow
import Derived.WalkKit
import Derived.WalkSpells
import Derived.WalkLawsBesides
import Derived.Lib.Hide
import Derived.Deep.QuietTactic
import Derived.BigQuiet
import Derived.Deep.RegionHeld3
import Derived.Deep.AppendLies
import Derived.OneCell
import Derived.Deep.Quiet
import Derived.OrdersHeld
import Derived.Deep.RegionHeld
import Derived.ChangeKeysEq
import Derived.KernelRfl
import Derived.Laws.Tables
import Derived.Great.BuildSlice
import Derived.Laws.CopyOwn
import Derived.Laws.MakeOwn
import Derived.Test.YtckggbkoabmjiaaDoorQz01
import Derived.Test.YtckggbkoabmjiaaDoorQz02
import Derived.Test.YtckggbkoabmjiaaDoorQz03
import Derived.Test.YtckggbkoabmjiaaDoorQz12
import Derived.Test.YtckggbkoabmjiaaDoorQz16
import Derived.Test.YtckggbkoabmjiaaDoorQz19
namespace Go.Proofs.YtckggbkoabmjiaaDoor
set_option linter.unusedVariables false
set_option linter.unusedSimpArgs false
open Go.RowKit
theorem fars_glob {c b : Nat} {w wa w' : World} {v : Value} {vs : List Value} (h : w.rangeAt b 0 (v :: vs)) (he : Ext w wa) (hc : w.heap.size ≤ c) (hf : Far c wa w') : w'.rangeAt b 0 (v :: vs) := by
 obtain ⟨wx, h1, h2⟩ := hf
 rcases h2 with h2 | h2
 ·rw [h2]
  exact glob_ext h (he.trans h1)
 ·exact glob_ext h (ext_grown (he.trans h1) h2 hc)
theorem es_zero : (⟨0, fp 1, fp 1, 0⟩ : ES) = esZero := by rw [fp_one]; rfl
theorem es_base : (⟨fp bX, fp bY, fp 1, fp bX * fp bY⟩ : ES) = bP.es := by rw [fp_one]; rfl
theorem z16_el : ElL (List.replicate 16 0) 0 := ⟨by simp, el_zero⟩
set_option maxRecDepth 100000 in
set_option maxHeartbeats 4000000 in
theorem rnought_f (w : World) : Calls Tryd.prog 56 #[] w fun e w' => ∃ r, e = .returned r ∧ PtV r esZero ∧ Below w.heap.size w w' := by
 have HB := Lib.hid (boxes_one w (ints .i64 (List.replicate 64 0)) 56)
 go_enter Tryd.func56, Tryd.ntmps56
 go_upto_region 1 with (fail)
 obtain ⟨H1, HE⟩ := HB.out
 change Code.wp _ _ _ _ (w.alloc (.cells (ints .i64 (List.replicate 64 0)).toArray 56))
 generalize w.alloc (.cells (ints .i64 (List.replicate 64 0)).toArray 56) = wa at *
 obtain ⟨A, hA⟩ : ∃ A, A = w.heap.size := ⟨_, rfl⟩
 have HO : Hid (w.heap.size ≤ A) := Lib.hid (by omega)
 rw [← hA] at H1 ⊢
 have HR := Lib.hid H1
 have HE : Hid (Ext w wa) := Lib.hid HE
 clear hA HB H1
 go_wp2_with fail
 refine (rone_f 1 wa (by omega) (by omega)).mono ?_
 rintro e wb ⟨r, rfl, hr, hb⟩
 obtain ⟨z1, rfl, e1⟩ := hr.toL
 have HE := Lib.hid (HE.out.trans hb)
 have HR := Lib.hid (ext_blk HR.out hb)
 have HE1 := Lib.hid e1
 clear hb hr e1
 go_wp2_with fail
 refine (rone_f 1 wb (by omega) (by omega)).mono ?_
 rintro e wc ⟨r, rfl, hr, hb⟩
 obtain ⟨z2, rfl, e2⟩ := hr.toL
 have HE := Lib.hid (HE.out.trans hb)
 have HR := Lib.hid (ext_blk HR.out hb)
 have HE2 := Lib.hid e2
 clear hb hr e2
 have HZ : Hid (PtZ (List.replicate 16 0) z1 z2 (List.replicate 16 0) ⟨0, fp 1, fp 1, 0⟩) := Lib.hid ⟨z16_el, HE1.out, HE2.out, z16_el⟩
 have HL : Hid ((ptC (List.replicate 16 0) z1 z2 (List.replicate 16 0)).length = (ints .i64 (List.replicate 64 0)).length) := Lib.hid (by rw [ptC_length HZ.out, ints_length]; rfl)
 go_wp2_with (first | (refine wpList_build rfl 56 #[(0, _), (1, _), (2, _), (3, _)] rfl #[(0, .agg (ints .i64 (List.replicate 16 0)).toArray), (1, .agg (ints .i64 z1).toArray), (2, .agg (ints .i64 z2).toArray), (3, .agg (ints .i64 (List.replicate 16 0)).toArray)] (by simp [Act.eval]; try rfl) _ (build_pt HZ.out _) ?_) | (refine wpList_store_blk rfl _ _ _ rfl A (ptC (List.replicate 16 0) z1 z2 (List.replicate 16 0)) rfl rfl _ _ HR.out HL.out (pt_size HZ.out) (ptC_one _ _ _ _) ?_; intro wd hb4 hg4))
 refine bodyPost_ret (result_pt rfl _ A _ _ rfl hb4 Tryd.underlying56 (pt_size HZ.out)) rfl ?_
 exact ⟨_, rfl, ⟨_, _, _, _, rfl, by rw [← es_zero]; exact HZ.out⟩, ext_grown HE.out hg4 HO.out⟩
set_option maxRecDepth 100000 in
set_option maxHeartbeats 4000000 in
theorem rbase_f (w : World) (hX : GlobX w) (hY : GlobY w) : Calls Tryd.prog 27 #[] w fun e w' => ∃ r, e = .returned r ∧ PtV r bP.es ∧ Below w.heap.size w w' := by
 have HB := Lib.hid (boxes_one w (ints .i64 (List.replicate 64 0)) 56)
 have HGX := Lib.hid hX
 have HGY := Lib.hid hY
 clear hX hY
 go_enter Tryd.func27, Tryd.ntmps27
 go_upto_region 1 with (fail)
 obtain ⟨H1, HE⟩ := HB.out
 change Code.wp _ _ _ _ (w.alloc (.cells (ints .i64 (List.replicate 64 0)).toArray 56))
 generalize w.alloc (.cells (ints .i64 (List.replicate 64 0)).toArray 56) = wa at *
 obtain ⟨A, hA⟩ : ∃ A, A = w.heap.size := ⟨_, rfl⟩
 have HO : Hid (w.heap.size ≤ A) := Lib.hid (by omega)
 have HLT : Hid (∀ g, g < w.heap.size → A ≠ g) := Lib.hid (fun g hg => by omega)
 rw [← hA] at H1 ⊢
 have HR := Lib.hid H1
 have HE : Hid (Ext w wa) := Lib.hid HE
 clear hA HB H1
 have B0 : Ext wa wa.drew := Ext.drew _
 refine wp_region_held_drew (S := fun w' => Far (A) wa w') (by kernel_rfl) (fars_ext B0) (fun hHeld => ?_)
 refine wpAnyH_take (i := 0) (v := .agg (ints .i64 bxL).toArray) rfl (by kernel_rfl) (by kernel_rfl) (by kernel_rfl) (fun _ _ _ h => h) (yieldsIf_load_mid (by rfl) _ _ rfl 0 0 rfl _ _ (fun w h => fars_glob (HGX.out) HE.out HO.out h) Tryd.underlying54 rfl (el_size bx_el.len)) hHeld ?_
 simp only [Act.put, nrm]
 refine wpAnyH_take (i := 1) (v := .agg (ints .i64 byL).toArray) rfl (by kernel_rfl) (by kernel_rfl) (by kernel_rfl) (fun _ _ _ h => h) (yieldsIf_load_mid (by rfl) _ _ rfl 1 0 rfl _ _ (fun w h => fars_glob (HGY.out) HE.out HO.out h) Tryd.underlying54 rfl (el_size by_el.len)) hHeld ?_
 simp only [Act.put, nrm]
 refine wpAnyH_take (i := 3) (v := .agg (ints .i64 bxL).toArray) rfl (by kernel_rfl) (by kernel_rfl) (by kernel_rfl) (fun _ _ _ h => h) (yieldsIf_load_mid (by rfl) _ _ rfl 0 0 rfl _ _ (fun w h => fars_glob (HGX.out) HE.out HO.out h) Tryd.underlying54 rfl (el_size bx_el.len)) hHeld ?_
 simp only [Act.put, nrm]
 refine wpAnyH_take (i := 4) (v := .agg (ints .i64 byL).toArray) rfl (by kernel_rfl) (by kernel_rfl) (by kernel_rfl) (fun _ _ _ h => h) (yieldsIf_load_mid (by rfl) _ _ rfl 1 0 rfl _ _ (fun w h => fars_glob (HGY.out) HE.out HO.out h) Tryd.underlying54 rfl (el_size by_el.len)) hHeld ?_
 simp only [Act.put, nrm]
 refine wpAnyH_ready (rs := [2]) (by kernel_rfl) (by simp) (AllReadyH.cons rfl (fun K hK => ?_) AllReadyH.nil)
 go_simp
 refine (rone_f 1 _ (by omega) (by omega)).mono ?_
 rintro e m1 ⟨v1, rfl, e1, b1⟩
 obtain ⟨z1, hz1, l1⟩ := e1.form
 subst hz1
 have N1 : Ext wa m1 := B0.trans b1
 refine hK.out _ _ (fars_ext N1) (fun hHeld => ?_)
 clear hK K
 try simp only [Act.put, nrm]
 refine wpAnyH_ready (rs := [5]) (by kernel_rfl) (by simp) (AllReadyH.cons rfl (fun K hK => ?_) AllReadyH.nil)
 go_simp
 refine (rmul_f _ bx_el.el by_el.el).mono ?_
 rintro e m2 ⟨v2, rfl, e2, b2⟩
 obtain ⟨z2, hz2, l2⟩ := e2.form
 subst hz2
 have N2 : Ext wa m2 := N1.trans b2
 refine hK.out _ _ (fars_ext N2) (fun hHeld => ?_)
 clear hK K
 try simp only [Act.put, nrm]
 refine wpAnyH_take (i := 6) (v := .agg (ptC bxL byL z1 z2).toArray) rfl (by kernel_rfl) (by kernel_rfl) (by kernel_rfl) (fun _ _ _ h => h) (yi_build _ _ _ _ (build_pt (⟨⟨bx_el.len, bx_el.el⟩, ⟨by_el.len, by_el.el⟩, ⟨l1, e1⟩, ⟨l2, e2⟩⟩ : PtZ bxL byL z1 z2 ⟨fp bX, fp bY, fp 1, fp bX * fp bY⟩)) (by rfl) rfl (by simp [Act.eval])) hHeld ?_
 simp only [Act.put, nrm]
 refine wpAnyH_ready (rs := [7]) (by kernel_rfl) (by simp) (AllReadyH.cons rfl (fun K hK => ?_) AllReadyH.nil)
 refine step_wp (by rfl) ?_
 refine wp_store_blk _ _ _ rfl (A) (ptC bxL byL z1 z2) rfl rfl _ _ (ext_blk HR.out N2) (by rw [ptC_length ((⟨⟨bx_el.len, bx_el.el⟩, ⟨by_el.len, by_el.el⟩, ⟨l1, e1⟩, ⟨l2, e2⟩⟩ : PtZ bxL byL z1 z2 ⟨fp bX, fp bY, fp 1, fp bX * fp bY⟩)), ints_length]; rfl) (pt_size ((⟨⟨bx_el.len, bx_el.el⟩, ⟨by_el.len, by_el.el⟩, ⟨l1, e1⟩, ⟨l2, e2⟩⟩ : PtZ bxL byL z1 z2 ⟨fp bX, fp bY, fp 1, fp bX * fp bY⟩))) (ptC_one _ _ _ _) ?_
 intro m3 hb3 hg3
 refine hK.out _ _ (fars_put N2 hg3) (fun hHeld => ?_)
 clear hK K
 try simp only [Act.put, nrm]
 refine wpAnyH_done (by kernel_rfl) ?_ _
 go_wp2_with fail
 refine bodyPost_ret (result_pt rfl _ A _ _ rfl hb3 Tryd.underlying56 (pt_size (⟨⟨bx_el.len, bx_el.el⟩, ⟨by_el.len, by_el.el⟩, ⟨l1, e1⟩, ⟨l2, e2⟩⟩ : PtZ bxL byL z1 z2 ⟨fp bX, fp bY, fp 1, fp bX * fp bY⟩))) rfl ?_
 exact ⟨_, rfl, ⟨_, _, _, _, rfl, by rw [← es_base]; exact (⟨⟨bx_el.len, bx_el.el⟩, ⟨by_el.len, by_el.el⟩, ⟨l1, e1⟩, ⟨l2, e2⟩⟩ : PtZ bxL byL z1 z2 ⟨fp bX, fp bY, fp 1, fp bX * fp bY⟩)⟩, ext_grown (HE.out.trans N2) hg3 HO.out⟩
set_option maxRecDepth 100000 in
set_option maxHeartbeats 8000000 in
theorem rmany_f (v : Value) (s : ES) (nb : List UInt8) (w : World) (hv : PtV v s) (hn : nb.length = 32) (hG : GlobD w) : Calls Tryd.prog 26 #[v, .agg (nb.map bval).toArray] w fun e w' => ∃ r, e = .returned r ∧ PtV r (erun 256 s (leN nb) 256) ∧ Below w.heap.size w w' := by
 obtain ⟨pa, pb, pc, pd, rfl, hp⟩ := hv
 have HPZ := Lib.hid hp
 have HNL := Lib.hid hn
 have HG0 := Lib.hid hG
 have HB := Lib.hid (boxes3 w (ptC pa pb pc pd) (nb.map bval) (ints .i64 (List.replicate 64 0)) 56 23 56)
 clear hp hn hG
 go_enter Tryd.func26, Tryd.ntmps26
 go_upto_region 1 with (fail)
 obtain ⟨H1, H2, H3, HE⟩ := HB.out
 change Code.wp _ _ _ _ (((w.alloc (.cells (ptC pa pb pc pd).toArray 56)).alloc (.cells (nb.map bval).toArray 23)).alloc (.cells (ints .i64 (List.replicate 64 0)).toArray 56))
 generalize ((w.alloc (.cells (ptC pa pb pc pd).toArray 56)).alloc (.cells (nb.map bval).toArray 23)).alloc (.cells (ints .i64 (List.replicate 64 0)).toArray 56) = wa at *
 obtain ⟨A, hA⟩ : ∃ A, A = w.heap.size := ⟨_, rfl⟩
 have HO : Hid (w.heap.size ≤ A) := Lib.hid (by omega)
 rw [← hA] at H1 H2 H3 ⊢
 have HP : Hid (PtB wa A s) := Lib.hid ⟨_, _, _, _, H1, HPZ.out⟩
 have HN := Lib.hid H2
 have HR := Lib.hid H3
 have HE : Hid (Ext w wa) := Lib.hid HE
 clear hA HB H1 H2 H3 HPZ
 go_wp2_with fail
 refine (rnought_f wa).mono ?_
 rintro e wb ⟨r, rfl, hr, hb⟩
 obtain ⟨ra, rb, rc, rd, rfl, hz⟩ := hr
 have HP := Lib.hid (HP.out.ext hb)
 have HN := Lib.hid (ext_blk HN.out hb)
 have HR := Lib.hid (ext_blk HR.out hb)
 have HE := Lib.hid (HE.out.trans hb)
 have HZZ := Lib.hid hz
 clear hb hz
 have HZ := Lib.hid (Blk.made wb (ints .i64 (List.replicate 64 0)) 56)
 have HEA := Lib.hid (Ext.alloc wb (.cells (ints .i64 (List.replicate 64 0)).toArray 56))
 have HL : Hid ((ptC ra rb rc rd).length = (ints .i64 (List.replicate 64 0)).length) := Lib.hid (by rw [ptC_length HZZ.out, ints_length]; rfl)
 go_upto_region 2 with (refine wpList_store_blk rfl _ _ _ rfl wb.heap.size (ptC ra rb rc rd) rfl rfl _ _ HZ.out HL.out (pt_size HZZ.out) (ptC_one _ _ _ _) ?_; intro wc hb2 hg2)
 have HX := Lib.hid (ext_grown HEA.out hg2 (Nat.le_refl _))
 obtain ⟨T, hT⟩ : ∃ T, T = wb.heap.size := ⟨_, rfl⟩
 rw [← hT] at hb2 ⊢
 have HO : Hid (w.heap.size ≤ A ∧ A + 1 + 1 < T) := Lib.hid ⟨HO.out, by rw [hT]; exact HR.out.lt⟩
 have HP := Lib.hid (HP.out.ext HX.out)
 have HN := Lib.hid (ext_blk HN.out HX.out)
 have HR := Lib.hid (ext_blk HR.out HX.out)
 have HE := Lib.hid (HE.out.trans HX.out)
 have HT : Hid (PtB wc T (erun 256 s (leN nb) 0)) := Lib.hid ⟨_, _, _, _, hb2, HZZ.out⟩
 clear hb2 hg2 HZ HEA HX hT HL HZZ
 go_wp2_with fail
 go_loopw [6] (fun i wr => ∃ k : Nat, k ≤ 256 ∧ i = .int .i64 (255 - (k : Int)) ∧ PtB wr T (erun 256 s (leN nb) k) ∧ PtB wr A s ∧ Blk wr (A + 1) (nb.map bval) 23 ∧ Blk wr (A + 1 + 1) (ints .i64 (List.replicate 64 0)) 56 ∧ Ext w wr) (fun i _ => (intOf i + 1).toNat)
 case atStart => exact ⟨0, by omega, rfl, HT.out, HP.out, HN.out, HR.out, HE.out⟩
 case round =>
  clear HT HP HN HR HE
  obtain ⟨k, hk, rfl, q1, q2, q3, q4, q5⟩ := hrel
  have i0' : (0 : Int) ≤ (k : Int) := Int.natCast_nonneg _
  obtain ⟨t, ht⟩ : ∃ t, t = erun 256 s (leN nb) k := ⟨_, rfl⟩
  rw [← ht] at q1
  have HTT := Lib.hid ht
  obtain ⟨ta, tb, tc, td, tB, tZ⟩ := q1
  have HT := Lib.hid tB
  have HTZ := Lib.hid tZ
  have HP := Lib.hid q2
  have HN := Lib.hid q3
  have HR := Lib.hid q4
  have HE := Lib.hid q5
  clear q2 q3 q4 q5 tB tZ ht
  by_cases hlt : k < 256
  ·have i1 : (0 : Int) ≤ 255 - (k : Int) := by omega
   have i2 : (k : Int) ≤ 255 := by omega
   go_wp2_with (first | (refine wpList_load_mid rfl _ _ rfl T 0 rfl _ _ HT.out.range Tryd.underlying56 rfl (pt_size HTZ.out) ?_))
   refine (rsum_f _ _ t t wr ⟨_, _, _, _, rfl, HTZ.out⟩ ⟨_, _, _, _, rfl, HTZ.out⟩ (HG0.out.ext HE.out)).mono ?_
   rintro e w1 ⟨r, rfl, hr, hb⟩
   obtain ⟨sa, sb, sc, sd, rfl, hz⟩ := hr
   have HT := Lib.hid (ext_blk HT.out hb)
   have HP := Lib.hid (HP.out.ext hb)
   have HN := Lib.hid (ext_blk HN.out hb)
   have HR := Lib.hid (ext_blk HR.out hb)
   have HE := Lib.hid (HE.out.trans hb)
   have HSZ := Lib.hid hz
   clear hb hz
   have HL : Hid ((ptC sa sb sc sd).length = (ptC ta tb tc td).length) := Lib.hid (by rw [ptC_length HSZ.out, ptC_length HTZ.out])
   go_upto_region 6 with (refine wpList_store_blk rfl _ _ _ rfl T (ptC sa sb sc sd) rfl rfl _ _ HT.out HL.out (pt_size HSZ.out) (ptC_one _ _ _ _) ?_; intro w2 hb2 hg2)
   have HP := Lib.hid (HP.out.grown hg2 (by have := HO.out; simp; omega))
   have HN := Lib.hid (HN.out.grown hg2 (by have := HO.out; simp; omega))
   have HR := Lib.hid (HR.out.grown hg2 (by have := HO.out; simp; omega))
   have HE := Lib.hid (ext_grown HE.out hg2 (by have := HO.out; omega))
   have HT := Lib.hid hb2
   clear hb2 hg2 HL HTZ
   have e1 := HN.out.cell ((255 - k) / 8)
   rw [bval_get (by have := HNL.out; omega)] at e1
   generalize hbt : (nb.getD ((255 - k) / 8) 0).toNat = bt at *
   have s1 : ((255 - (k : Int)) / 8).toNat = (255 - k) / 8 := by omega
   have s2 : (0 : Int) ≤ (255 - (k : Int)) / 8 := by omega
   have s3 : (255 - (k : Int)) / 8 < 32 := by omega
   have s4 : (0 : Int) ≤ (255 - (k : Int)) % 8 := by omega
   have s5 : (255 - (k : Int)) % 8 < 8 := by omega
   have s6 : ((255 - (k : Int)) % 8).toNat = (255 - k) % 8 := by omega
   have hbit := leN_bit nb (255 - k) (by have := HNL.out; omega)
   rw [hbt] at hbit
   have hcast : (bt : Int) / 2 ^ ((255 - k) % 8) = ((bt / 2 ^ ((255 - k) % 8) : Nat) : Int) := by
    rw [Int.natCast_ediv, Int.natCast_pow]
    rfl
   have htb : (leN nb).testBit (255 - k) = decide (leN nb / 2 ^ (255 - k) % 2 = 1) := Nat.testBit_eq_decide_div_mod_eq
   have HRUN : Hid (erun 256 s (leN nb) (k + 1) = if decide (leN nb / 2 ^ (255 - k) % 2 = 1) = true then (t.sum t).sum s else t.sum t) := Lib.hid (by rw [erun, HTT.out, ← htb])
   by_cases hb1 : leN nb / 2 ^ (255 - k) % 2 = 1
   ·have hq : bits .and .u8 ((bt : Int) / 2 ^ ((255 - k) % 8)) 1 = 1 := by
     rw [hcast, andU1, ← hbit, hb1]
     rfl
    have HF : Hid (erun 256 s (leN nb) (k + 1) = (t.sum t).sum s) := Lib.hid (by rw [HRUN.out, if_pos (decide_eq_true hb1)])
    clear hbit hcast htb hbt hb1 HRUN
    go_upto_region 7 with (fail)
    clear hq e1 s1 s2 s3 s4 s5 s6
    obtain ⟨pa, pb, pc, pd, pB, pZ⟩ := HP.out
    have HPB := Lib.hid pB
    have HPZ := Lib.hid pZ
    clear pB pZ
    go_wp2_with (first | (refine wpList_load_mid rfl _ _ rfl T 0 rfl _ _ HT.out.range Tryd.underlying56 rfl (pt_size HSZ.out) ?_) | (refine wpList_load_mid rfl _ _ rfl A 0 rfl _ _ HPB.out.range Tryd.underlying56 rfl (pt_size HPZ.out) ?_))
    refine (rsum_f _ _ (t.sum t) s w2 ⟨_, _, _, _, rfl, HSZ.out⟩ ⟨_, _, _, _, rfl, HPZ.out⟩ (HG0.out.ext HE.out)).mono ?_
    rintro e w3 ⟨r, rfl, hr, hb⟩
    obtain ⟨xa, xb, xc, xd, rfl, hz⟩ := hr
    have HT := Lib.hid (ext_blk HT.out hb)
    have HP := Lib.hid (HP.out.ext hb)
    have HN := Lib.hid (ext_blk HN.out hb)
    have HR := Lib.hid (ext_blk HR.out hb)
    have HE := Lib.hid (HE.out.trans hb)
    have HXZ := Lib.hid hz
    clear hb hz HPB HPZ
    have HL : Hid ((ptC xa xb xc xd).length = (ptC sa sb sc sd).length) := Lib.hid (by rw [ptC_length HSZ.out, ptC_length HXZ.out])
    go_wp2_with (refine wpList_store_blk rfl _ _ _ rfl T (ptC xa xb xc xd) rfl rfl _ _ HT.out HL.out (pt_size HXZ.out) (ptC_one _ _ _ _) ?_; intro w4 hb2 hg2)
    go_roundw
    case rel => exact ⟨k + 1, by omega, by go_num, by rw [HF.out]; exact ⟨_, _, _, _, hb2, HXZ.out⟩, HP.out.grown hg2 (by have := HO.out; simp; omega), HN.out.grown hg2 (by have := HO.out; simp; omega), HR.out.grown hg2 (by have := HO.out; simp; omega), ext_grown HE.out hg2 (by have := HO.out; omega)⟩
    case measure => simp [intOf]; omega
   ·have hb0 : leN nb / 2 ^ (255 - k) % 2 = 0 := by omega
    have hq : bits .and .u8 ((bt : Int) / 2 ^ ((255 - k) % 8)) 1 = 0 := by
     rw [hcast, andU1, ← hbit, hb0]
     rfl
    have HF : Hid (erun 256 s (leN nb) (k + 1) = t.sum t) := Lib.hid (by rw [HRUN.out, if_neg (by rw [decide_eq_false hb1]; decide)])
    clear hbit hcast htb hbt hb1 hb0 HRUN
    go_wp2_with fail
    go_roundw
    case rel => exact ⟨k + 1, by omega, by go_num, by rw [HF.out]; exact ⟨_, _, _, _, HT.out, HSZ.out⟩, HP.out, HN.out, HR.out, HE.out⟩
    case measure => simp [intOf]; omega
  ·have hk' : k = 256 := by omega
   subst hk'
   have HL : Hid ((ptC ta tb tc td).length = (ints .i64 (List.replicate 64 0)).length) := Lib.hid (by rw [ptC_length HTZ.out, ints_length]; rfl)
   go_wp2_with (first | (refine wpList_load_mid rfl _ _ rfl T 0 rfl _ _ HT.out.range Tryd.underlying56 rfl (pt_size HTZ.out) ?_) | (refine wpList_store_blk rfl _ _ _ rfl (A + 1 + 1) (ptC ta tb tc td) rfl rfl _ _ HR.out HL.out (pt_size HTZ.out) (ptC_one _ _ _ _) ?_; intro w4 hb4 hg4))
   refine bodyPost_ret (result_pt rfl _ (A + 1 + 1) _ _ rfl hb4 Tryd.underlying56 (pt_size HTZ.out)) rfl ?_
   exact ⟨_, rfl, ⟨_, _, _, _, rfl, by rw [← HTT.out]; exact HTZ.out⟩, ext_grown HE.out hg4 (by have := HO.out; omega)⟩
set_option maxRecDepth 100000 in
set_option maxHeartbeats 8000000 in
theorem rwritten_f (v : Value) (s : ES) (P : Pt) (w : World) (hv : PtV v s) (hs : s.is P) : Calls Tryd.prog 25 #[v] w fun e w' => e = .returned (.agg ((encB P).map bval).toArray) ∧ Below w.heap.size w w' := by
 obtain ⟨pa, pb, pc, pd, rfl, hp⟩ := hv
 obtain ⟨z1, z2, z3, z4⟩ := id hp
 have Hpx := Lib.hid z1
 have Hpy := Lib.hid z2
 have Hpz := Lib.hid z3
 have Hpt := Lib.hid z4
 have HIS := Lib.hid hs
 clear z1 z2 z3 z4 hp hs
 have HB := Lib.hid (boxes2 w (ptC pa pb pc pd) (ints .u8 (List.replicate 32 0)) 56 23)
 go_enter Tryd.func25, Tryd.ntmps25
 go_upto_region 1 with (fail)
 obtain ⟨H1, H2, HE⟩ := HB.out
 change Code.wp _ _ _ _ ((w.alloc (.cells (ptC pa pb pc pd).toArray 56)).alloc (.cells (ints .u8 (List.replicate 32 0)).toArray 23))
 generalize (w.alloc (.cells (ptC pa pb pc pd).toArray 56)).alloc (.cells (ints .u8 (List.replicate 32 0)).toArray 23) = wa at *
 obtain ⟨A, hA⟩ : ∃ A, A = w.heap.size := ⟨_, rfl⟩
 have HO : Hid (w.heap.size ≤ A) := Lib.hid (by omega)
 rw [← hA] at H1 H2 ⊢
 have HP := Lib.hid H1
 have HR := Lib.hid H2
 have HE : Hid (Ext w wa) := Lib.hid HE
 clear hA HB H1 H2
 go_wp2_with (refine wpList_load_mid rfl _ _ rfl A 32 rfl _ _ (rng_z (HP.out) Hpx.out.len Hpy.out.len) Tryd.underlying54 rfl (el_size Hpz.out.len) ?_)
 refine (rinv_f wa Hpz.out.el).mono ?_
 rintro e wl1 ⟨r, rfl, hr, hb⟩
 obtain ⟨z, hz, lz⟩ := hr.form
 subst hz
 have HP := Lib.hid (ext_blk HP.out hb)
 have HR := Lib.hid (ext_blk HR.out hb)
 have HE := Lib.hid (HE.out.trans hb)
 clear hb
 have HZ := Lib.hid (Blk.made wl1 (ints .i64 (List.replicate 16 0)) 54)
 have HEA := Lib.hid (Ext.alloc wl1 (.cells (ints .i64 (List.replicate 16 0)).toArray 54))
 have HI := Lib.hid (el_size lz)
 have HL : Hid ((ints .i64 z).length = (ints .i64 (List.replicate 16 0)).length) := Lib.hid (by rw [ints_length, lz]; rfl)
 go_upto_region 2 with (refine wpList_store_blk rfl _ _ _ rfl wl1.heap.size (ints .i64 z) rfl rfl _ _ HZ.out HL.out HI.out (ints_one _ _) ?_; intro wl2 hbm hgm)
 have HX := Lib.hid (ext_grown HEA.out hgm (Nat.le_refl _))
 obtain ⟨TZz, hT⟩ : ∃ T, T = wl1.heap.size := ⟨_, rfl⟩
 have HTZz : Hid (A + 1 < TZz) := Lib.hid (by rw [hT]; exact HR.out.lt)
 rw [← hT] at hbm ⊢
 have HP := Lib.hid (ext_blk HP.out HX.out)
 have HR := Lib.hid (ext_blk HR.out HX.out)
 have HE := Lib.hid (HE.out.trans HX.out)
 have EZz : Hid (ElB wl2 TZz (fi s.z)) := Lib.hid ⟨z, lz, hbm, hr⟩
 have HO := Lib.hid (And.intro HO.out HTZz.out)
 clear hbm hgm HZ HEA HX hT hr HI HL lz
 obtain ⟨zZz, lZz, bZz, eZz⟩ := EZz.out
 have HbZz := Lib.hid bZz
 have HeZz := Lib.hid eZz
 have HlZz := Lib.hid lZz
 have HiZz := Lib.hid (el_size lZz)
 clear bZz eZz lZz
 go_wp2_with (first | (refine wpList_load_mid rfl _ _ rfl A 0 rfl _ _ (rng_x (HP.out)) Tryd.underlying54 rfl (el_size Hpx.out.len) ?_) | (refine wpList_load_blk rfl _ _ rfl TZz rfl _ _ _ _ HbZz.out Tryd.underlying54 HiZz.out ?_))
 refine (rmul_f wl2 Hpx.out.el HeZz.out).mono ?_
 rintro e wl3 ⟨r, rfl, hr, hb⟩
 obtain ⟨z, hz, lz⟩ := hr.form
 subst hz
 rw [is_x HIS.out] at hr
 have EZz := Lib.hid (EZz.out.ext hb)
 have HP := Lib.hid (ext_blk HP.out hb)
 have HR := Lib.hid (ext_blk HR.out hb)
 have HE := Lib.hid (HE.out.trans hb)
 clear hb
 have HRR := Lib.hid hr
 clear hr
 go_wp2_with fail
 refine (rout_f wl3 HRR.out).mono ?_
 rintro e wl4 ⟨rfl, hb⟩
 have EZz := Lib.hid (EZz.out.ext hb)
 have HP := Lib.hid (ext_blk HP.out hb)
 have HR := Lib.hid (ext_blk HR.out hb)
 have HE := Lib.hid (HE.out.trans hb)
 clear hb HRR lz
 have HZ := Lib.hid (Blk.made wl4 (ints .u8 (List.replicate 32 0)) 23)
 have HEA := Lib.hid (Ext.alloc wl4 (.cells (ints .u8 (List.replicate 32 0)).toArray 23))
 have HL : Hid (((nbF P.x).map bval).length = (ints .u8 (List.replicate 32 0)).length) := Lib.hid (by rw [List.length_map, nbF_length, ints_length]; rfl)
 go_upto_region 3 with (refine wpList_store_blk rfl _ _ _ rfl wl4.heap.size ((nbF P.x).map bval) rfl rfl _ _ HZ.out HL.out (num_size (nbF_length _)) (bval_one _) ?_; intro wl5 hb2 hg2)
 have HX := Lib.hid (ext_grown HEA.out hg2 (Nat.le_refl _))
 obtain ⟨Xn, hT⟩ : ∃ T, T = wl4.heap.size := ⟨_, rfl⟩
 have HTXn : Hid (TZz < Xn) := Lib.hid (by rw [hT]; exact EZz.out.lt)
 rw [← hT] at hb2 ⊢
 have EZz := Lib.hid (EZz.out.ext HX.out)
 have HP := Lib.hid (ext_blk HP.out HX.out)
 have HR := Lib.hid (ext_blk HR.out HX.out)
 have HE := Lib.hid (HE.out.trans HX.out)
 have HXn := Lib.hid hb2
 have HO := Lib.hid (And.intro HO.out HTXn.out)
 clear hb2 hg2 HZ HEA HX hT HL
 obtain ⟨zZz, lZz, bZz, eZz⟩ := EZz.out
 have HbZz := Lib.hid bZz
 have HeZz := Lib.hid eZz
 have HlZz := Lib.hid lZz
 have HiZz := Lib.hid (el_size lZz)
 clear bZz eZz lZz
 go_wp2_with (first | (refine wpList_load_mid rfl _ _ rfl A 16 rfl _ _ (rng_y (HP.out) Hpx.out.len) Tryd.underlying54 rfl (el_size Hpy.out.len) ?_) | (refine wpList_load_blk rfl _ _ rfl TZz rfl _ _ _ _ HbZz.out Tryd.underlying54 HiZz.out ?_))
 refine (rmul_f wl5 Hpy.out.el HeZz.out).mono ?_
 rintro e wl6 ⟨r, rfl, hr, hb⟩
 obtain ⟨z, hz, lz⟩ := hr.form
 subst hz
 rw [is_y HIS.out] at hr
 have EZz := Lib.hid (EZz.out.ext hb)
 have HP := Lib.hid (ext_blk HP.out hb)
 have HR := Lib.hid (ext_blk HR.out hb)
 have HE := Lib.hid (HE.out.trans hb)
 have HXn := Lib.hid (ext_blk HXn.out hb)
 clear hb
 have HRR := Lib.hid hr
 clear hr
 go_wp2_with fail
 refine (rout_f wl6 HRR.out).mono ?_
 rintro e wl7 ⟨rfl, hb⟩
 have EZz := Lib.hid (EZz.out.ext hb)
 have HP := Lib.hid (ext_blk HP.out hb)
 have HR := Lib.hid (ext_blk HR.out hb)
 have HE := Lib.hid (HE.out.trans hb)
 have HXn := Lib.hid (ext_blk HXn.out hb)
 clear hb HRR lz
 have HZ := Lib.hid (Blk.made wl7 (ints .u8 (List.replicate 32 0)) 23)
 have HEA := Lib.hid (Ext.alloc wl7 (.cells (ints .u8 (List.replicate 32 0)).toArray 23))
 have HL : Hid (((nbF P.y).map bval).length = (ints .u8 (List.replicate 32 0)).length) := Lib.hid (by rw [List.length_map, nbF_length, ints_length]; rfl)
 go_upto_region 4 with (refine wpList_store_blk rfl _ _ _ rfl wl7.heap.size ((nbF P.y).map bval) rfl rfl _ _ HZ.out HL.out (num_size (nbF_length _)) (bval_one _) ?_; intro wl8 hb2 hg2)
 have HX := Lib.hid (ext_grown HEA.out hg2 (Nat.le_refl _))
 obtain ⟨Yn, hT⟩ : ∃ T, T = wl7.heap.size := ⟨_, rfl⟩
 have HTYn : Hid (Xn < Yn) := Lib.hid (by rw [hT]; exact HXn.out.lt)
 rw [← hT] at hb2 ⊢
 have EZz := Lib.hid (EZz.out.ext HX.out)
 have HP := Lib.hid (ext_blk HP.out HX.out)
 have HR := Lib.hid (ext_blk HR.out HX.out)
 have HE := Lib.hid (HE.out.trans HX.out)
 have HXn := Lib.hid (ext_blk HXn.out HX.out)
 have HYn := Lib.hid hb2
 have HO := Lib.hid (And.intro HO.out HTYn.out)
 clear hb2 hg2 HZ HEA HX hT HL
 have hodd := nbF_odd P.x
 have c0 := HXn.out.cell 0
 rw [bval_get (by rw [nbF_length]; omega)] at c0
 have c1 := HYn.out.cell 31
 rw [bval_get (by rw [nbF_length]; omega)] at c1
 have f1 := HYn.out.free 31
 have HEL := Lib.hid (encB_length P)
 have hpar : P.x.val % 2 = 1 ∨ P.x.val % 2 = 0 := by omega
 rcases hpar with hpar | hpar
 ·have hq : bits .and .u8 (((nbF P.x).getD 0 0).toNat : Int) 1 = 1 := by
   rw [andU1, hodd, hpar]
   rfl
  have HX1 : Hid (((nbF P.y).map bval).set 31 (.int .u8 (bits .or .u8 (((nbF P.y).getD 31 0).toNat : Int) 128)) = (encB P).map bval) := Lib.hid (by
   have e1 := u8_or ((nbF P.y).getD 31 0) 128
   rw [show (128 : Int) = ((128 : UInt8).toNat : Int) from rfl, e1, u8_set, enc_odd hpar])
  clear hodd hpar
  generalize (((nbF P.x).getD 0 0).toNat : Int) = q0 at *
  generalize (((nbF P.y).getD 31 0).toNat : Int) = q1 at *
  have hsh : (1 : Int) * 2 ^ 7 = 128 := by decide
  go_upto_region 5 with (fail)
  have HM := Lib.hid (HYn.out.set 31 (.int .u8 (bits .or .u8 q1 128)))
  rw [HX1.out] at HM
  have HR := Lib.hid (HR.out.far (a := ⟨Yn, 31, none⟩) (by have := HO.out; simp; omega) (.int .u8 (bits .or .u8 q1 128)))
  have HE := Lib.hid (Below.setCell HE.out (p := ⟨Yn, 31, none⟩) (by have := HO.out; simp; omega) (.int .u8 (bits .or .u8 q1 128)))
  generalize bits .or .u8 q1 128 = v1 at *
  generalize wl8.setCell ⟨Yn, 31, none⟩ (.int .u8 v1) = wz at *
  have HE : Hid (Ext w wz) := Lib.hid HE.out
  clear c0 c1 f1 HX1
  have HL : Hid (((encB P).map bval).length = (ints .u8 (List.replicate 32 0)).length) := Lib.hid (by rw [List.length_map, HEL.out, ints_length]; rfl)
  go_wp2_with (first | (refine wpList_load_blk rfl _ _ rfl Yn rfl _ _ _ _ HM.out Tryd.underlying23 (num_size HEL.out) ?_) | (refine wpList_store_blk rfl _ _ _ rfl (A + 1) ((encB P).map bval) rfl rfl _ _ HR.out HL.out (num_size HEL.out) (bval_one _) ?_; intro w9 hb9 hg9))
  refine bodyPost_ret (result_blk rfl _ (A + 1) _ _ _ _ rfl hb9 Tryd.underlying23 (num_size HEL.out)) rfl ?_
  exact ⟨rfl, ext_grown HE.out hg9 (by have := HO.out; omega)⟩
 ·have hq : bits .and .u8 (((nbF P.x).getD 0 0).toNat : Int) 1 = 0 := by
   rw [andU1, hodd, hpar]
   rfl
  have HX1 : Hid (((nbF P.y).map bval).set 31 (.int .u8 (bits .or .u8 (((nbF P.y).getD 31 0).toNat : Int) 0)) = (encB P).map bval) := Lib.hid (by
   have e1 := u8_or ((nbF P.y).getD 31 0) 0
   rw [show (0 : Int) = ((0 : UInt8).toNat : Int) from rfl, e1, u8_set, enc_even hpar])
  clear hodd hpar
  generalize (((nbF P.x).getD 0 0).toNat : Int) = q0 at *
  generalize (((nbF P.y).getD 31 0).toNat : Int) = q1 at *
  go_upto_region 5 with (fail)
  have HM := Lib.hid (HYn.out.set 31 (.int .u8 (bits .or .u8 q1 0)))
  rw [HX1.out] at HM
  have HR := Lib.hid (HR.out.far (a := ⟨Yn, 31, none⟩) (by have := HO.out; simp; omega) (.int .u8 (bits .or .u8 q1 0)))
  have HE := Lib.hid (Below.setCell HE.out (p := ⟨Yn, 31, none⟩) (by have := HO.out; simp; omega) (.int .u8 (bits .or .u8 q1 0)))
  generalize bits .or .u8 q1 0 = v1 at *
  generalize wl8.setCell ⟨Yn, 31, none⟩ (.int .u8 v1) = wz at *
  have HE : Hid (Ext w wz) := Lib.hid HE.out
  clear c0 c1 f1 HX1
  have HL : Hid (((encB P).map bval).length = (ints .u8 (List.replicate 32 0)).length) := Lib.hid (by rw [List.length_map, HEL.out, ints_length]; rfl)
  go_wp2_with (first | (refine wpList_load_blk rfl _ _ rfl Yn rfl _ _ _ _ HM.out Tryd.underlying23 (num_size HEL.out) ?_) | (refine wpList_store_blk rfl _ _ _ rfl (A + 1) ((encB P).map bval) rfl rfl _ _ HR.out HL.out (num_size HEL.out) (bval_one _) ?_; intro w9 hb9 hg9))
  refine bodyPost_ret (result_blk rfl _ (A + 1) _ _ _ _ rfl hb9 Tryd.underlying23 (num_size HEL.out)) rfl ?_
  exact ⟨rfl, ext_grown HE.out hg9 (by have := HO.out; omega)⟩
section
theorem splice_bytes (l c : List UInt8) (f : Nat) : splice (l.map bval) f (c.map bval) = (l.take f ++ c ++ l.drop (f + c.length)).map bval := by
 unfold splice
 simp
section
variable {P : Program}
theorem grown_setRow (w : World) (g : Nat) (cs : Array Value) : w.grownBy (w.setRow g cs) (some g) :=
 ⟨rfl, rfl, rfl, by simp [World.setRow], fun k _ hk => setRow_other w g k cs (fun e => hk (by rw [e]))⟩
theorem wp_copy_blk {w : World} {o : Oper} {a : Act} {K : Act → World → Prop} {Q : Exit → Act → World → Prop} (d s : Operand) (dT sT : TypeId)
  (ho : o.op = .call { callee := .builtin .copy, args := #[d, s], argTypes := #[dT, sT] }) (elem : TypeId) (hu : P.underlying dT = some (.slice elem)) (hsz : (P.info? elem).map (·.size) = some 1)
  (dp sp : Option Addr) (dLen dCap sLen sCap : Nat) (hd : a.eval d = .slice dp dLen dCap) (hs : a.eval s = .slice sp sLen sCap)
  (g off : Nat) (cur : List Value) (t : TypeId) (hg : Blk w g cur t) (cs : List Value) (hn : cs.length = Nat.min sLen dLen)
  (hpos : 0 < cs.length → dp = some ⟨g, off, none⟩ ∧ ∃ ad, sp = some ad ∧ ∀ j v, cs[j]? = some v → w.cell? (ad.add j) = some v)
  (hfit : off + cs.length ≤ cur.length) (h1 : ∀ v ∈ cs, v.oneCell' = true)
  (h : ∀ w', Blk w' g (splice cur off cs) t → w.grownBy w' (some g) → K (a.put o.dst (goInt cs.length)) w') : o.wp P a w K Q := by
 by_cases h0 : cs.length = 0
 ·obtain rfl : cs = [] := List.eq_nil_of_length_eq_zero h0
  have hrun := run_copy_none (P := P) w dT sT o.type elem dp sp dLen dCap sLen sCap hu hsz (by simpa using hn.symm)
  unfold Oper.wp
  simp [execOp, ho, resolve, invoke, builtin, hd, hs, hrun, Result.andThen]
  exact h w (by simpa [splice] using hg) (World.grownBy.refl _ _)
 ·obtain ⟨rfl, ad, rfl, hsrc⟩ := hpos (by omega)
  have hrun := run_copy_row (P := P) w dT sT o.type elem g off dLen dCap ad sLen sCap cur.toArray t cs hu hsz hg hn hsrc (by simpa using hfit) h1
  unfold Oper.wp
  simp [execOp, ho, resolve, invoke, builtin, hd, hs, hrun, Result.andThen]
  exact h _ (show _ = _ by simpa [splice] using setRow_heap w g _ _ t _ hg) (grown_setRow _ _ _)
end
end
end Go.Proofs.YtckggbkoabmjiaaDoor
