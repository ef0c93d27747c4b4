/- The walk of the document's own X25519. Each theorem names its own conditions. -/
import Derived.Test.YtdjdalaghfknoaaRefClamp
import Derived.Test.YtdjdalaghfknoaaHeldKit
import Derived.Test.YtdjdalaghfknoaaFarKit
import Derived.Test.YtdjdalaghfknoaaHeldMore
namespace Go.Proofs.Ytdjdalaghfknoaa
open Go.RowKit
set_option linter.unusedVariables false
set_option linter.unusedSimpArgs false

theorem build_el (w : World) : (Instr.build 48 #[]).run Try.prog w = .ok (.agg (ints .i64 (List.replicate 16 0)).toArray) w := by
  simp [Instr.build, Try.zeroValue48]
  rfl
theorem fp_lit : fp 121665 = 121665 := by
  apply fin_int
  rw [fp_int]
  decide +kernel

set_option maxRecDepth 100000 in
set_option maxHeartbeats 16000000 in
theorem rladder_any (kb ub : List UInt8) (w : World) (hk : kb.length = 32) (hu : ub.length = 32) : Calls Try.prog 14 #[.agg (kb.map bval).toArray, .agg (ub.map bval).toArray] w fun e w' => e = .returned (.agg ((ladB kb ub).map bval).toArray) ∧ Below w.heap.size w w' := by
  have HB := Lib.hid (boxes3 w (kb.map bval) (ub.map bval) (ints .u8 (List.replicate 32 0)) 23 23 23)
  have HKL := Lib.hid hk
  have HUL := Lib.hid hu
  clear hk hu
  go_enter Try.func14, Try.ntmps14
  go_upto_region 1 with (fail)
  obtain ⟨H1, H2, H3, HE⟩ := HB.out
  change Code.wp _ _ _ _ (((w.alloc (.cells (kb.map bval).toArray 23)).alloc (.cells (ub.map bval).toArray 23)).alloc (.cells (ints .u8 (List.replicate 32 0)).toArray 23))
  generalize ((w.alloc (.cells (kb.map bval).toArray 23)).alloc (.cells (ub.map bval).toArray 23)).alloc (.cells (ints .u8 (List.replicate 32 0)).toArray 23) = wa at *
  obtain ⟨A, hA⟩ : ∃ A, A = w.heap.size := ⟨_, rfl⟩
  have HO : Hid (w.heap.size ≤ A) := Lib.hid (by omega)
  rw [← hA] at H1 H2 H3 ⊢
  have H1 := Lib.hid H1
  have H2 := Lib.hid H2
  have HR := Lib.hid H3
  have HE : Hid (Ext w wa) := Lib.hid HE
  clear hA HB
  obtain ⟨cl, hcl⟩ : ∃ cl, cl = clampB kb := ⟨_, rfl⟩
  obtain ⟨mu, hmu⟩ : ∃ mu, mu = maskB ub := ⟨_, rfl⟩
  have HCL : Hid (cl.length = 32) := Lib.hid (by rw [hcl]; exact clampB_length HKL.out)
  have HML : Hid (mu.length = 32) := Lib.hid (by rw [hmu]; exact maskB_length HUL.out)
  have HIK := Lib.hid (num_size HKL.out)
  have HIC : Hid ((Try.prog.info? 23).map (·.size) = some (cl.map bval).length) := Lib.hid (num_size HCL.out)
  have HIM : Hid ((Try.prog.info? 23).map (·.size) = some (mu.map bval).length) := Lib.hid (num_size HML.out)
  have HLK : Hid ((cl.map bval).length = (kb.map bval).length) := Lib.hid (by rw [List.length_map, List.length_map, HCL.out, HKL.out])
  have HX1 : Hid ((ub.map bval).set 31 (.int .u8 (bits .and .u8 ((ub.getD 31 0).toNat : Int) 127)) = mu.map bval) := Lib.hid (by
    have e1 := u8_and (ub.getD 31 0) 127
    rw [show (127 : Int) = ((127 : UInt8).toNat : Int) from rfl, e1, u8_set, hmu]
    rfl)
  have HCE := Lib.hid hcl
  have HME := Lib.hid hmu
  have HC := Lib.hid (rclamped_any kb wa HKL.out)
  rw [← hcl] at HC
  clear hcl hmu
  go_wp2_with (refine wpList_load_blk rfl _ _ rfl A rfl _ _ _ _ H1.out Try.underlying23 HIK.out ?_)
  refine HC.out.mono ?_
  rintro e wb ⟨rfl, hb⟩
  have H1 := Lib.hid (ext_blk H1.out hb)
  have H2 := Lib.hid (ext_blk H2.out hb)
  have HR := Lib.hid (ext_blk HR.out hb)
  have HE := Lib.hid (HE.out.trans hb)
  clear hb HC
  go_upto_region 2 with (refine wpList_store_blk rfl _ _ _ rfl A (cl.map bval) rfl rfl _ _ H1.out HLK.out HIC.out (bval_one _) ?_; intro wc hbm hgm)
  have H2 := Lib.hid (H2.out.grown hgm (by simp))
  have HR := Lib.hid (HR.out.grown hgm (by simp <;> omega))
  have HE := Lib.hid (ext_grown HE.out hgm HO.out)
  have HK := Lib.hid hbm
  clear H1 hbm hgm HLK HIK
  have c1 := H2.out.cell 31
  rw [bval_get (by rw [HUL.out]; omega)] at c1
  have f1 := H2.out.free 31
  generalize ((ub.getD 31 0).toNat : Int) = q1 at *
  go_upto_region 3 with (fail)
  have HM := Lib.hid (H2.out.set 31 (.int .u8 (bits .and .u8 q1 127)))
  rw [HX1.out] at HM
  have HK := Lib.hid (HK.out.far (a := ⟨A + 1, 31, none⟩) (by simp) (.int .u8 (bits .and .u8 q1 127)))
  have HR := Lib.hid (HR.out.far (a := ⟨A + 1, 31, none⟩) (by simp) (.int .u8 (bits .and .u8 q1 127)))
  have HE : Hid (Ext w _) := Lib.hid (Below.setCell HE.out (p := ⟨A + 1, 31, none⟩) (by have := HO.out; simp; omega) (.int .u8 (bits .and .u8 q1 127)))
  generalize bits .and .u8 q1 127 = v1 at *
  generalize wc.setCell ⟨A + 1, 31, none⟩ (.int .u8 v1) = wd at *
  clear c1 f1 HX1 H2
  obtain ⟨x1f, hx1⟩ : ∃ x1f, x1f = fp (leN mu) := ⟨_, rfl⟩
  have HC := Lib.hid (rin_f mu wd HML.out)
  rw [← hx1] at HC
  have HXF := Lib.hid hx1
  clear hx1
  go_wp2_with (refine wpList_load_blk rfl _ _ rfl (A + 1) rfl _ _ _ _ HM.out Try.underlying23 HIM.out ?_)
  refine HC.out.mono ?_
  rintro e wl1 ⟨r, rfl, hr, hb⟩
  obtain ⟨z, hz, lz⟩ := hr.form
  subst hz
  have HK := Lib.hid (ext_blk HK.out hb)
  have HR := Lib.hid (ext_blk HR.out hb)
  have HE := Lib.hid (HE.out.trans hb)
  clear hb HC HM
  have HZ := Lib.hid (Blk.made wl1 (ints .i64 (List.replicate 16 0)) 48)
  have HEA := Lib.hid (Ext.alloc wl1 (.cells (ints .i64 (List.replicate 16 0)).toArray 48))
  have HI := Lib.hid (el_size lz)
  have HL : Hid ((ints .i64 z).length = (ints .i64 (List.replicate 16 0)).length) := Lib.hid (by rw [ints_length, lz]; rfl)
  go_upto_region 4 with (refine wpList_store_blk rfl _ _ _ rfl wl1.heap.size (ints .i64 z) rfl rfl _ _ HZ.out HL.out HI.out (ints_one _ _) ?_; intro wl2 hbm hgm)
  have HX := Lib.hid (ext_grown HEA.out hgm (Nat.le_refl _))
  obtain ⟨Tx1, hT⟩ : ∃ T, T = wl1.heap.size := ⟨_, rfl⟩
  have HTx1 : Hid (A + 2 < Tx1) := Lib.hid (by rw [hT]; exact HR.out.lt)
  rw [← hT] at hbm ⊢
  have HK := Lib.hid (ext_blk HK.out HX.out)
  have HR := Lib.hid (ext_blk HR.out HX.out)
  have HE := Lib.hid (HE.out.trans HX.out)
  have Ex1 : Hid (ElB wl2 Tx1 (x1f)) := Lib.hid ⟨z, lz, hbm, hr⟩
  have HO := Lib.hid (And.intro HO.out HTx1.out)
  clear hbm hgm HZ HEA HX hT hr HI HL lz
  go_wp2_with fail
  refine (rone_f 1 wl2 (by omega) (by omega)).mono ?_
  rintro e wl3 ⟨r, rfl, hr, hb⟩
  obtain ⟨z, hz, lz⟩ := hr.form
  subst hz
  have Ex1 := Lib.hid (Ex1.out.ext hb)
  have HK := Lib.hid (ext_blk HK.out hb)
  have HR := Lib.hid (ext_blk HR.out hb)
  have HE := Lib.hid (HE.out.trans hb)
  clear hb
  have HZ := Lib.hid (Blk.made wl3 (ints .i64 (List.replicate 16 0)) 48)
  have HEA := Lib.hid (Ext.alloc wl3 (.cells (ints .i64 (List.replicate 16 0)).toArray 48))
  have HI := Lib.hid (el_size lz)
  have HL : Hid ((ints .i64 z).length = (ints .i64 (List.replicate 16 0)).length) := Lib.hid (by rw [ints_length, lz]; rfl)
  go_upto_region 5 with (refine wpList_store_blk rfl _ _ _ rfl wl3.heap.size (ints .i64 z) rfl rfl _ _ HZ.out HL.out HI.out (ints_one _ _) ?_; intro wl4 hbm hgm)
  have HX := Lib.hid (ext_grown HEA.out hgm (Nat.le_refl _))
  obtain ⟨Tx2, hT⟩ : ∃ T, T = wl3.heap.size := ⟨_, rfl⟩
  have HTx2 : Hid (Tx1 < Tx2) := Lib.hid (by rw [hT]; exact Ex1.out.lt)
  rw [← hT] at hbm ⊢
  have Ex1 := Lib.hid (Ex1.out.ext HX.out)
  have HK := Lib.hid (ext_blk HK.out HX.out)
  have HR := Lib.hid (ext_blk HR.out HX.out)
  have HE := Lib.hid (HE.out.trans HX.out)
  have Ex2 : Hid (ElB wl4 Tx2 (fp 1)) := Lib.hid ⟨z, lz, hbm, hr⟩
  have HO := Lib.hid (And.intro HO.out HTx2.out)
  clear hbm hgm HZ HEA HX hT hr HI HL lz
  go_upto_region 6 with (fail)
  change Code.wp _ _ _ _ (wl4.alloc (.cells (ints .i64 (List.replicate 16 0)).toArray 48))
  have HZ := Lib.hid (Blk.made wl4 (ints .i64 (List.replicate 16 0)) 48)
  have HEA := Lib.hid (Ext.alloc wl4 (.cells (ints .i64 (List.replicate 16 0)).toArray 48))
  obtain ⟨Tz2, hT⟩ : ∃ T, T = wl4.heap.size := ⟨_, rfl⟩
  have HTz2 : Hid (Tx2 < Tz2) := Lib.hid (by rw [hT]; exact Ex2.out.lt)
  rw [← hT] at HZ ⊢
  clear hT
  generalize wl4.alloc (.cells (ints .i64 (List.replicate 16 0)).toArray 48) = wl5 at *
  have Ex1 := Lib.hid (Ex1.out.ext HEA.out)
  have Ex2 := Lib.hid (Ex2.out.ext HEA.out)
  have HK := Lib.hid (ext_blk HK.out HEA.out)
  have HR := Lib.hid (ext_blk HR.out HEA.out)
  have HE := Lib.hid (HE.out.trans HEA.out)
  have Ez2 : Hid (ElB wl5 Tz2 0) := Lib.hid ⟨List.replicate 16 0, by simp, HZ.out, el_zero⟩
  have HO := Lib.hid (And.intro HO.out HTz2.out)
  clear HZ HEA
  obtain ⟨zx1, lx1, bx1, ex1⟩ := Ex1.out
  have Hbx1 := Lib.hid bx1
  have Hex1 := Lib.hid ex1
  have Hlx1 := Lib.hid lx1
  have Hix1 := Lib.hid (el_size lx1)
  clear bx1 ex1 lx1
  have lz := Hlx1.out
  have hr := Hex1.out
  clear Hlx1 Hex1
  have HZ := Lib.hid (Blk.made wl5 (ints .i64 (List.replicate 16 0)) 48)
  have HEA := Lib.hid (Ext.alloc wl5 (.cells (ints .i64 (List.replicate 16 0)).toArray 48))
  have HS := Lib.hid (ext_blk Hbx1.out HEA.out)
  have HL : Hid ((ints .i64 zx1).length = (ints .i64 (List.replicate 16 0)).length) := Lib.hid (by rw [ints_length, lz]; rfl)
  go_upto_region 7 with (first | (refine wpList_load_blk rfl _ _ rfl Tx1 rfl _ _ _ _ Hbx1.out Try.underlying48 Hix1.out ?_) | (refine wpList_load_blk rfl _ _ rfl Tx1 rfl _ _ _ _ HS.out Try.underlying48 Hix1.out ?_) | (refine wpList_store_blk rfl _ _ _ rfl wl5.heap.size (ints .i64 zx1) rfl rfl _ _ HZ.out HL.out Hix1.out (ints_one _ _) ?_; intro wl6 hbm hgm))
  have HX := Lib.hid (ext_grown HEA.out hgm (Nat.le_refl _))
  obtain ⟨Tx3, hT⟩ : ∃ T, T = wl5.heap.size := ⟨_, rfl⟩
  have HTx3 : Hid (Tz2 < Tx3) := Lib.hid (by rw [hT]; exact Ez2.out.lt)
  rw [← hT] at hbm ⊢
  have Ex1 := Lib.hid (Ex1.out.ext HX.out)
  have Ex2 := Lib.hid (Ex2.out.ext HX.out)
  have Ez2 := Lib.hid (Ez2.out.ext HX.out)
  have HK := Lib.hid (ext_blk HK.out HX.out)
  have HR := Lib.hid (ext_blk HR.out HX.out)
  have HE := Lib.hid (HE.out.trans HX.out)
  have Ex3 : Hid (ElB wl6 Tx3 (x1f)) := Lib.hid ⟨zx1, lz, hbm, hr⟩
  have HO := Lib.hid (And.intro HO.out HTx3.out)
  clear hbm hgm HZ HEA HX hT hr HL lz HS
  go_wp2_with fail
  refine (rone_f 1 wl6 (by omega) (by omega)).mono ?_
  rintro e wl7 ⟨r, rfl, hr, hb⟩
  obtain ⟨z, hz, lz⟩ := hr.form
  subst hz
  have Ex1 := Lib.hid (Ex1.out.ext hb)
  have Ex2 := Lib.hid (Ex2.out.ext hb)
  have Ez2 := Lib.hid (Ez2.out.ext hb)
  have Ex3 := Lib.hid (Ex3.out.ext hb)
  have HK := Lib.hid (ext_blk HK.out hb)
  have HR := Lib.hid (ext_blk HR.out hb)
  have HE := Lib.hid (HE.out.trans hb)
  clear hb
  have HZ := Lib.hid (Blk.made wl7 (ints .i64 (List.replicate 16 0)) 48)
  have HEA := Lib.hid (Ext.alloc wl7 (.cells (ints .i64 (List.replicate 16 0)).toArray 48))
  have HI := Lib.hid (el_size lz)
  have HL : Hid ((ints .i64 z).length = (ints .i64 (List.replicate 16 0)).length) := Lib.hid (by rw [ints_length, lz]; rfl)
  go_upto_region 8 with (refine wpList_store_blk rfl _ _ _ rfl wl7.heap.size (ints .i64 z) rfl rfl _ _ HZ.out HL.out HI.out (ints_one _ _) ?_; intro wl8 hbm hgm)
  have HX := Lib.hid (ext_grown HEA.out hgm (Nat.le_refl _))
  obtain ⟨Tz3, hT⟩ : ∃ T, T = wl7.heap.size := ⟨_, rfl⟩
  have HTz3 : Hid (Tx3 < Tz3) := Lib.hid (by rw [hT]; exact Ex3.out.lt)
  rw [← hT] at hbm ⊢
  have Ex1 := Lib.hid (Ex1.out.ext HX.out)
  have Ex2 := Lib.hid (Ex2.out.ext HX.out)
  have Ez2 := Lib.hid (Ez2.out.ext HX.out)
  have Ex3 := Lib.hid (Ex3.out.ext HX.out)
  have HK := Lib.hid (ext_blk HK.out HX.out)
  have HR := Lib.hid (ext_blk HR.out HX.out)
  have HE := Lib.hid (HE.out.trans HX.out)
  have Ez3 : Hid (ElB wl8 Tz3 (fp 1)) := Lib.hid ⟨z, lz, hbm, hr⟩
  have HO := Lib.hid (And.intro HO.out HTz3.out)
  clear hbm hgm HZ HEA HX hT hr HI HL lz
  have Ex2 : Hid (ElB wl8 Tx2 1) := Lib.hid (by rw [← fp_one]; exact Ex2.out)
  have Ez3 : Hid (ElB wl8 Tz3 1) := Lib.hid (by rw [← fp_one]; exact Ez3.out)
  go_wp2_with fail
  go_loopw [10] (fun i wr => ∃ k : Nat, k ≤ 255 ∧ i = .int .i64 (254 - (k : Int)) ∧ ElB wr Tx1 x1f ∧ ElB wr Tx2 (lrun x1f (leN cl) k).x2 ∧ ElB wr Tz2 (lrun x1f (leN cl) k).z2 ∧ ElB wr Tx3 (lrun x1f (leN cl) k).x3 ∧ ElB wr Tz3 (lrun x1f (leN cl) k).z3 ∧ Blk wr A (cl.map bval) 23 ∧ Blk wr (A + 1 + 1) (ints .u8 (List.replicate 32 0)) 23 ∧ Ext w wr) (fun i _ => (intOf i + 1).toNat)
  case atStart => exact ⟨0, by omega, rfl, Ex1.out, Ex2.out, Ez2.out, Ex3.out, Ez3.out, HK.out, HR.out, HE.out⟩
  case round =>
    clear Ex1 Ex2 Ez2 Ex3 Ez3 HK HR HE
    obtain ⟨k, hk, rfl, q1, q2, q3, q4, q5, q6, q7, q8⟩ := hrel
    have i0' : (0 : Int) ≤ (k : Int) := Int.natCast_nonneg _
    obtain ⟨s, hs⟩ : ∃ s, s = lrun x1f (leN cl) k := ⟨_, rfl⟩
    rw [← hs] at q2 q3 q4 q5
    have Ex1 := Lib.hid q1
    have Ex2 := Lib.hid q2
    have Ez2 := Lib.hid q3
    have Ex3 := Lib.hid q4
    have Ez3 := Lib.hid q5
    have HK := Lib.hid q6
    have HR := Lib.hid q7
    have HE := Lib.hid q8
    clear q1 q2 q3 q4 q5 q6 q7 q8
    by_cases hlt : k < 255
    · have i1 : (0 : Int) ≤ 254 - (k : Int) := by omega
      have i2 : (k : Int) ≤ 254 := by omega
      have e1 := HK.out.cell ((254 - k) / 8)
      rw [bval_get (by have := HCL.out; omega)] at e1
      generalize hbt : (cl.getD ((254 - k) / 8) 0).toNat = bt at *
      have s1 : ((254 - (k : Int)) / 8).toNat = (254 - k) / 8 := by omega
      have s2 : (0 : Int) ≤ (254 - (k : Int)) / 8 := by omega
      have s3 : (254 - (k : Int)) / 8 < 32 := by omega
      have s4 : (0 : Int) ≤ (254 - (k : Int)) % 8 := by omega
      have s5 : (254 - (k : Int)) % 8 < 8 := by omega
      have s6 : ((254 - (k : Int)) % 8).toNat = (254 - k) % 8 := by omega
      have hbit := leN_bit cl (254 - k) (by have := HCL.out; omega)
      rw [hbt] at hbit
      have hcast : (bt : Int) / 2 ^ ((254 - k) % 8) = ((bt / 2 ^ ((254 - k) % 8) : Nat) : Int) := by
        rw [Int.natCast_ediv, Int.natCast_pow]
        rfl
      have htb : (leN cl).testBit (254 - k) = decide (leN cl / 2 ^ (254 - k) % 2 = 1) := Nat.testBit_eq_decide_div_mod_eq
      by_cases hb1 : leN cl / 2 ^ (254 - k) % 2 = 1
      · have hq : bits .and .u8 ((bt : Int) / 2 ^ ((254 - k) % 8)) 1 = 1 := by
          rw [hcast, andU1, ← hbit, hb1]
          rfl
        have HG : Hid (lrun x1f (leN cl) (k + 1) = (s.swap.step x1f).swap) := Lib.hid (by
          rw [lrun, htb, ← hs]
          simp only [hb1, decide_true, decide_false]
          rfl)
        clear hbit hcast htb hbt hb1
        go_upto_region 13 with (fail)
        clear hq e1 s1 s2 s3 s4 s5 s6 hs
        obtain ⟨zx2, lx2, bx2, ex2⟩ := Ex2.out
        have Hbx2 := Lib.hid bx2
        have Hex2 := Lib.hid ex2
        have Hlx2 := Lib.hid lx2
        have Hix2 := Lib.hid (el_size lx2)
        clear bx2 ex2 lx2
        obtain ⟨zx3, lx3, bx3, ex3⟩ := Ex3.out
        have Hbx3 := Lib.hid bx3
        have Hex3 := Lib.hid ex3
        have Hlx3 := Lib.hid lx3
        have Hix3 := Lib.hid (el_size lx3)
        clear bx3 ex3 lx3
        have HL1 : Hid ((ints .i64 zx3).length = (ints .i64 zx2).length) := Lib.hid (by rw [ints_length, ints_length, Hlx2.out, Hlx3.out])
        have HL2 : Hid ((ints .i64 zx2).length = (ints .i64 zx3).length) := Lib.hid (by rw [ints_length, ints_length, Hlx2.out, Hlx3.out])
        go_upto_region 14 with (first | (refine wpList_load_blk rfl _ _ rfl Tx2 rfl _ _ _ _ Hbx2.out Try.underlying48 Hix2.out ?_) | (refine wpList_load_blk rfl _ _ rfl Tx3 rfl _ _ _ _ Hbx3.out Try.underlying48 Hix3.out ?_) | (refine wpList_store_blk rfl _ _ _ rfl Tx2 (ints .i64 zx3) rfl rfl _ _ Hbx2.out HL1.out Hix3.out (ints_one _ _) ?_; intro wl101 hbm hgm; have HB1 := Lib.hid (Hbx3.out.grown hgm (by have := HO.out; simp; omega)); have HG1 := Lib.hid hgm; have HN1 := Lib.hid hbm; clear hbm hgm) | (refine wpList_store_blk rfl _ _ _ rfl Tx3 (ints .i64 zx2) rfl rfl _ _ HB1.out HL2.out Hix2.out (ints_one _ _) ?_; intro wl102 hbm hgm))
        have Ex1 := Lib.hid ((Ex1.out.grown HG1.out (by have := HO.out; simp; omega)).grown hgm (by have := HO.out; simp; omega))
        have Ez2 := Lib.hid ((Ez2.out.grown HG1.out (by have := HO.out; simp; omega)).grown hgm (by have := HO.out; simp; omega))
        have Ez3 := Lib.hid ((Ez3.out.grown HG1.out (by have := HO.out; simp; omega)).grown hgm (by have := HO.out; simp; omega))
        have HK := Lib.hid ((HK.out.grown HG1.out (by have := HO.out; simp; omega)).grown hgm (by have := HO.out; simp; omega))
        have HR := Lib.hid ((HR.out.grown HG1.out (by have := HO.out; simp; omega)).grown hgm (by have := HO.out; simp; omega))
        have HE := Lib.hid (ext_grown (ext_grown HE.out HG1.out (by have := HO.out; omega)) hgm (by have := HO.out; omega))
        have Ex2 : Hid (ElB wl102 Tx2 (s.x3)) := Lib.hid ⟨zx3, Hlx3.out, HN1.out.grown hgm (by have := HO.out; simp; omega), Hex3.out⟩
        have Ex3 : Hid (ElB wl102 Tx3 (s.x2)) := Lib.hid ⟨zx2, Hlx2.out, hbm, Hex2.out⟩
        clear hbm hgm HG1 HN1 HB1 HL1 HL2
        obtain ⟨zz2, lz2, bz2, ez2⟩ := Ez2.out
        have Hbz2 := Lib.hid bz2
        have Hez2 := Lib.hid ez2
        have Hlz2 := Lib.hid lz2
        have Hiz2 := Lib.hid (el_size lz2)
        clear bz2 ez2 lz2
        obtain ⟨zz3, lz3, bz3, ez3⟩ := Ez3.out
        have Hbz3 := Lib.hid bz3
        have Hez3 := Lib.hid ez3
        have Hlz3 := Lib.hid lz3
        have Hiz3 := Lib.hid (el_size lz3)
        clear bz3 ez3 lz3
        have HL1 : Hid ((ints .i64 zz3).length = (ints .i64 zz2).length) := Lib.hid (by rw [ints_length, ints_length, Hlz2.out, Hlz3.out])
        have HL2 : Hid ((ints .i64 zz2).length = (ints .i64 zz3).length) := Lib.hid (by rw [ints_length, ints_length, Hlz2.out, Hlz3.out])
        go_upto_region 15 with (first | (refine wpList_load_blk rfl _ _ rfl Tz2 rfl _ _ _ _ Hbz2.out Try.underlying48 Hiz2.out ?_) | (refine wpList_load_blk rfl _ _ rfl Tz3 rfl _ _ _ _ Hbz3.out Try.underlying48 Hiz3.out ?_) | (refine wpList_store_blk rfl _ _ _ rfl Tz2 (ints .i64 zz3) rfl rfl _ _ Hbz2.out HL1.out Hiz3.out (ints_one _ _) ?_; intro wl103 hbm hgm; have HB1 := Lib.hid (Hbz3.out.grown hgm (by have := HO.out; simp; omega)); have HG1 := Lib.hid hgm; have HN1 := Lib.hid hbm; clear hbm hgm) | (refine wpList_store_blk rfl _ _ _ rfl Tz3 (ints .i64 zz2) rfl rfl _ _ HB1.out HL2.out Hiz2.out (ints_one _ _) ?_; intro wl104 hbm hgm))
        have Ex1 := Lib.hid ((Ex1.out.grown HG1.out (by have := HO.out; simp; omega)).grown hgm (by have := HO.out; simp; omega))
        have Ex2 := Lib.hid ((Ex2.out.grown HG1.out (by have := HO.out; simp; omega)).grown hgm (by have := HO.out; simp; omega))
        have Ex3 := Lib.hid ((Ex3.out.grown HG1.out (by have := HO.out; simp; omega)).grown hgm (by have := HO.out; simp; omega))
        have HK := Lib.hid ((HK.out.grown HG1.out (by have := HO.out; simp; omega)).grown hgm (by have := HO.out; simp; omega))
        have HR := Lib.hid ((HR.out.grown HG1.out (by have := HO.out; simp; omega)).grown hgm (by have := HO.out; simp; omega))
        have HE := Lib.hid (ext_grown (ext_grown HE.out HG1.out (by have := HO.out; omega)) hgm (by have := HO.out; omega))
        have Ez2 : Hid (ElB wl104 Tz2 (s.z3)) := Lib.hid ⟨zz3, Hlz3.out, HN1.out.grown hgm (by have := HO.out; simp; omega), Hez3.out⟩
        have Ez3 : Hid (ElB wl104 Tz3 (s.z2)) := Lib.hid ⟨zz2, Hlz2.out, hbm, Hez2.out⟩
        clear hbm hgm HG1 HN1 HB1 HL1 HL2
        obtain ⟨zx2, lx2, bx2, ex2⟩ := Ex2.out
        have Hbx2 := Lib.hid bx2
        have Hex2 := Lib.hid ex2
        have Hlx2 := Lib.hid lx2
        have Hix2 := Lib.hid (el_size lx2)
        clear bx2 ex2 lx2
        obtain ⟨zz2, lz2, bz2, ez2⟩ := Ez2.out
        have Hbz2 := Lib.hid bz2
        have Hez2 := Lib.hid ez2
        have Hlz2 := Lib.hid lz2
        have Hiz2 := Lib.hid (el_size lz2)
        clear bz2 ez2 lz2
        go_wp2_with (first | (refine wpList_load_blk rfl _ _ rfl Tx2 rfl _ _ _ _ Hbx2.out Try.underlying48 Hix2.out ?_) | (refine wpList_load_blk rfl _ _ rfl Tz2 rfl _ _ _ _ Hbz2.out Try.underlying48 Hiz2.out ?_))
        refine (radd_f wl104 Hex2.out Hez2.out).mono ?_
        rintro e wl105 ⟨r, rfl, hr, hb⟩
        obtain ⟨z, hz, lz⟩ := hr.form
        subst hz
        have Ex1 := Lib.hid (Ex1.out.ext hb)
        have Ex2 := Lib.hid (Ex2.out.ext hb)
        have Ez2 := Lib.hid (Ez2.out.ext hb)
        have Ex3 := Lib.hid (Ex3.out.ext hb)
        have Ez3 := Lib.hid (Ez3.out.ext hb)
        have HK := Lib.hid (ext_blk HK.out hb)
        have HR := Lib.hid (ext_blk HR.out hb)
        have HE := Lib.hid (HE.out.trans hb)
        clear hb
        have HZ := Lib.hid (Blk.made wl105 (ints .i64 (List.replicate 16 0)) 48)
        have HEA := Lib.hid (Ext.alloc wl105 (.cells (ints .i64 (List.replicate 16 0)).toArray 48))
        have HI := Lib.hid (el_size lz)
        have HL : Hid ((ints .i64 z).length = (ints .i64 (List.replicate 16 0)).length) := Lib.hid (by rw [ints_length, lz]; rfl)
        go_upto_region 16 with (refine wpList_store_blk rfl _ _ _ rfl wl105.heap.size (ints .i64 z) rfl rfl _ _ HZ.out HL.out HI.out (ints_one _ _) ?_; intro wl106 hbm hgm)
        have HX := Lib.hid (ext_grown HEA.out hgm (Nat.le_refl _))
        obtain ⟨TA, hT⟩ : ∃ T, T = wl105.heap.size := ⟨_, rfl⟩
        have HTA : Hid (Tz3 < TA) := Lib.hid (by rw [hT]; exact Ez3.out.lt)
        rw [← hT] at hbm ⊢
        have Ex1 := Lib.hid (Ex1.out.ext HX.out)
        have Ex2 := Lib.hid (Ex2.out.ext HX.out)
        have Ez2 := Lib.hid (Ez2.out.ext HX.out)
        have Ex3 := Lib.hid (Ex3.out.ext HX.out)
        have Ez3 := Lib.hid (Ez3.out.ext HX.out)
        have HK := Lib.hid (ext_blk HK.out HX.out)
        have HR := Lib.hid (ext_blk HR.out HX.out)
        have HE := Lib.hid (HE.out.trans HX.out)
        have EA : Hid (ElB wl106 TA (s.x3 + s.z3)) := Lib.hid ⟨z, lz, hbm, hr⟩
        have HO := Lib.hid (And.intro HO.out HTA.out)
        clear hbm hgm HZ HEA HX hT hr HI HL lz
        obtain ⟨zA, lA, bA, eA⟩ := EA.out
        have HbA := Lib.hid bA
        have HeA := Lib.hid eA
        have HlA := Lib.hid lA
        have HiA := Lib.hid (el_size lA)
        clear bA eA lA
        go_wp2_with (first | (refine wpList_load_blk rfl _ _ rfl TA rfl _ _ _ _ HbA.out Try.underlying48 HiA.out ?_))
        refine (rmul_f wl106 HeA.out HeA.out).mono ?_
        rintro e wl107 ⟨r, rfl, hr, hb⟩
        obtain ⟨z, hz, lz⟩ := hr.form
        subst hz
        have Ex1 := Lib.hid (Ex1.out.ext hb)
        have Ex2 := Lib.hid (Ex2.out.ext hb)
        have Ez2 := Lib.hid (Ez2.out.ext hb)
        have Ex3 := Lib.hid (Ex3.out.ext hb)
        have Ez3 := Lib.hid (Ez3.out.ext hb)
        have EA := Lib.hid (EA.out.ext hb)
        have HK := Lib.hid (ext_blk HK.out hb)
        have HR := Lib.hid (ext_blk HR.out hb)
        have HE := Lib.hid (HE.out.trans hb)
        clear hb
        have HZ := Lib.hid (Blk.made wl107 (ints .i64 (List.replicate 16 0)) 48)
        have HEA := Lib.hid (Ext.alloc wl107 (.cells (ints .i64 (List.replicate 16 0)).toArray 48))
        have HI := Lib.hid (el_size lz)
        have HL : Hid ((ints .i64 z).length = (ints .i64 (List.replicate 16 0)).length) := Lib.hid (by rw [ints_length, lz]; rfl)
        go_upto_region 17 with (refine wpList_store_blk rfl _ _ _ rfl wl107.heap.size (ints .i64 z) rfl rfl _ _ HZ.out HL.out HI.out (ints_one _ _) ?_; intro wl108 hbm hgm)
        have HX := Lib.hid (ext_grown HEA.out hgm (Nat.le_refl _))
        obtain ⟨TAA, hT⟩ : ∃ T, T = wl107.heap.size := ⟨_, rfl⟩
        have HTAA : Hid (TA < TAA) := Lib.hid (by rw [hT]; exact EA.out.lt)
        rw [← hT] at hbm ⊢
        have Ex1 := Lib.hid (Ex1.out.ext HX.out)
        have Ex2 := Lib.hid (Ex2.out.ext HX.out)
        have Ez2 := Lib.hid (Ez2.out.ext HX.out)
        have Ex3 := Lib.hid (Ex3.out.ext HX.out)
        have Ez3 := Lib.hid (Ez3.out.ext HX.out)
        have EA := Lib.hid (EA.out.ext HX.out)
        have HK := Lib.hid (ext_blk HK.out HX.out)
        have HR := Lib.hid (ext_blk HR.out HX.out)
        have HE := Lib.hid (HE.out.trans HX.out)
        have EAA : Hid (ElB wl108 TAA ((s.x3 + s.z3) * (s.x3 + s.z3))) := Lib.hid ⟨z, lz, hbm, hr⟩
        have HO := Lib.hid (And.intro HO.out HTAA.out)
        clear hbm hgm HZ HEA HX hT hr HI HL lz
        obtain ⟨zx2, lx2, bx2, ex2⟩ := Ex2.out
        have Hbx2 := Lib.hid bx2
        have Hex2 := Lib.hid ex2
        have Hlx2 := Lib.hid lx2
        have Hix2 := Lib.hid (el_size lx2)
        clear bx2 ex2 lx2
        obtain ⟨zz2, lz2, bz2, ez2⟩ := Ez2.out
        have Hbz2 := Lib.hid bz2
        have Hez2 := Lib.hid ez2
        have Hlz2 := Lib.hid lz2
        have Hiz2 := Lib.hid (el_size lz2)
        clear bz2 ez2 lz2
        go_wp2_with (first | (refine wpList_load_blk rfl _ _ rfl Tx2 rfl _ _ _ _ Hbx2.out Try.underlying48 Hix2.out ?_) | (refine wpList_load_blk rfl _ _ rfl Tz2 rfl _ _ _ _ Hbz2.out Try.underlying48 Hiz2.out ?_))
        refine (rsub_f wl108 Hex2.out Hez2.out).mono ?_
        rintro e wl109 ⟨r, rfl, hr, hb⟩
        obtain ⟨z, hz, lz⟩ := hr.form
        subst hz
        have Ex1 := Lib.hid (Ex1.out.ext hb)
        have Ex2 := Lib.hid (Ex2.out.ext hb)
        have Ez2 := Lib.hid (Ez2.out.ext hb)
        have Ex3 := Lib.hid (Ex3.out.ext hb)
        have Ez3 := Lib.hid (Ez3.out.ext hb)
        have EA := Lib.hid (EA.out.ext hb)
        have EAA := Lib.hid (EAA.out.ext hb)
        have HK := Lib.hid (ext_blk HK.out hb)
        have HR := Lib.hid (ext_blk HR.out hb)
        have HE := Lib.hid (HE.out.trans hb)
        clear hb
        have HZ := Lib.hid (Blk.made wl109 (ints .i64 (List.replicate 16 0)) 48)
        have HEA := Lib.hid (Ext.alloc wl109 (.cells (ints .i64 (List.replicate 16 0)).toArray 48))
        have HI := Lib.hid (el_size lz)
        have HL : Hid ((ints .i64 z).length = (ints .i64 (List.replicate 16 0)).length) := Lib.hid (by rw [ints_length, lz]; rfl)
        go_upto_region 18 with (refine wpList_store_blk rfl _ _ _ rfl wl109.heap.size (ints .i64 z) rfl rfl _ _ HZ.out HL.out HI.out (ints_one _ _) ?_; intro wl110 hbm hgm)
        have HX := Lib.hid (ext_grown HEA.out hgm (Nat.le_refl _))
        obtain ⟨TBb, hT⟩ : ∃ T, T = wl109.heap.size := ⟨_, rfl⟩
        have HTBb : Hid (TAA < TBb) := Lib.hid (by rw [hT]; exact EAA.out.lt)
        rw [← hT] at hbm ⊢
        have Ex1 := Lib.hid (Ex1.out.ext HX.out)
        have Ex2 := Lib.hid (Ex2.out.ext HX.out)
        have Ez2 := Lib.hid (Ez2.out.ext HX.out)
        have Ex3 := Lib.hid (Ex3.out.ext HX.out)
        have Ez3 := Lib.hid (Ez3.out.ext HX.out)
        have EA := Lib.hid (EA.out.ext HX.out)
        have EAA := Lib.hid (EAA.out.ext HX.out)
        have HK := Lib.hid (ext_blk HK.out HX.out)
        have HR := Lib.hid (ext_blk HR.out HX.out)
        have HE := Lib.hid (HE.out.trans HX.out)
        have EBb : Hid (ElB wl110 TBb (s.x3 - s.z3)) := Lib.hid ⟨z, lz, hbm, hr⟩
        have HO := Lib.hid (And.intro HO.out HTBb.out)
        clear hbm hgm HZ HEA HX hT hr HI HL lz
        obtain ⟨zBb, lBb, bBb, eBb⟩ := EBb.out
        have HbBb := Lib.hid bBb
        have HeBb := Lib.hid eBb
        have HlBb := Lib.hid lBb
        have HiBb := Lib.hid (el_size lBb)
        clear bBb eBb lBb
        go_wp2_with (first | (refine wpList_load_blk rfl _ _ rfl TBb rfl _ _ _ _ HbBb.out Try.underlying48 HiBb.out ?_))
        refine (rmul_f wl110 HeBb.out HeBb.out).mono ?_
        rintro e wl111 ⟨r, rfl, hr, hb⟩
        obtain ⟨z, hz, lz⟩ := hr.form
        subst hz
        have Ex1 := Lib.hid (Ex1.out.ext hb)
        have Ex2 := Lib.hid (Ex2.out.ext hb)
        have Ez2 := Lib.hid (Ez2.out.ext hb)
        have Ex3 := Lib.hid (Ex3.out.ext hb)
        have Ez3 := Lib.hid (Ez3.out.ext hb)
        have EA := Lib.hid (EA.out.ext hb)
        have EAA := Lib.hid (EAA.out.ext hb)
        have EBb := Lib.hid (EBb.out.ext hb)
        have HK := Lib.hid (ext_blk HK.out hb)
        have HR := Lib.hid (ext_blk HR.out hb)
        have HE := Lib.hid (HE.out.trans hb)
        clear hb
        have HZ := Lib.hid (Blk.made wl111 (ints .i64 (List.replicate 16 0)) 48)
        have HEA := Lib.hid (Ext.alloc wl111 (.cells (ints .i64 (List.replicate 16 0)).toArray 48))
        have HI := Lib.hid (el_size lz)
        have HL : Hid ((ints .i64 z).length = (ints .i64 (List.replicate 16 0)).length) := Lib.hid (by rw [ints_length, lz]; rfl)
        go_upto_region 19 with (refine wpList_store_blk rfl _ _ _ rfl wl111.heap.size (ints .i64 z) rfl rfl _ _ HZ.out HL.out HI.out (ints_one _ _) ?_; intro wl112 hbm hgm)
        have HX := Lib.hid (ext_grown HEA.out hgm (Nat.le_refl _))
        obtain ⟨TBB, hT⟩ : ∃ T, T = wl111.heap.size := ⟨_, rfl⟩
        have HTBB : Hid (TBb < TBB) := Lib.hid (by rw [hT]; exact EBb.out.lt)
        rw [← hT] at hbm ⊢
        have Ex1 := Lib.hid (Ex1.out.ext HX.out)
        have Ex2 := Lib.hid (Ex2.out.ext HX.out)
        have Ez2 := Lib.hid (Ez2.out.ext HX.out)
        have Ex3 := Lib.hid (Ex3.out.ext HX.out)
        have Ez3 := Lib.hid (Ez3.out.ext HX.out)
        have EA := Lib.hid (EA.out.ext HX.out)
        have EAA := Lib.hid (EAA.out.ext HX.out)
        have EBb := Lib.hid (EBb.out.ext HX.out)
        have HK := Lib.hid (ext_blk HK.out HX.out)
        have HR := Lib.hid (ext_blk HR.out HX.out)
        have HE := Lib.hid (HE.out.trans HX.out)
        have EBB : Hid (ElB wl112 TBB ((s.x3 - s.z3) * (s.x3 - s.z3))) := Lib.hid ⟨z, lz, hbm, hr⟩
        have HO := Lib.hid (And.intro HO.out HTBB.out)
        clear hbm hgm HZ HEA HX hT hr HI HL lz
        obtain ⟨zAA, lAA, bAA, eAA⟩ := EAA.out
        have HbAA := Lib.hid bAA
        have HeAA := Lib.hid eAA
        have HlAA := Lib.hid lAA
        have HiAA := Lib.hid (el_size lAA)
        clear bAA eAA lAA
        obtain ⟨zBB, lBB, bBB, eBB⟩ := EBB.out
        have HbBB := Lib.hid bBB
        have HeBB := Lib.hid eBB
        have HlBB := Lib.hid lBB
        have HiBB := Lib.hid (el_size lBB)
        clear bBB eBB lBB
        go_wp2_with (first | (refine wpList_load_blk rfl _ _ rfl TAA rfl _ _ _ _ HbAA.out Try.underlying48 HiAA.out ?_) | (refine wpList_load_blk rfl _ _ rfl TBB rfl _ _ _ _ HbBB.out Try.underlying48 HiBB.out ?_))
        refine (rsub_f wl112 HeAA.out HeBB.out).mono ?_
        rintro e wl113 ⟨r, rfl, hr, hb⟩
        obtain ⟨z, hz, lz⟩ := hr.form
        subst hz
        have Ex1 := Lib.hid (Ex1.out.ext hb)
        have Ex2 := Lib.hid (Ex2.out.ext hb)
        have Ez2 := Lib.hid (Ez2.out.ext hb)
        have Ex3 := Lib.hid (Ex3.out.ext hb)
        have Ez3 := Lib.hid (Ez3.out.ext hb)
        have EA := Lib.hid (EA.out.ext hb)
        have EAA := Lib.hid (EAA.out.ext hb)
        have EBb := Lib.hid (EBb.out.ext hb)
        have EBB := Lib.hid (EBB.out.ext hb)
        have HK := Lib.hid (ext_blk HK.out hb)
        have HR := Lib.hid (ext_blk HR.out hb)
        have HE := Lib.hid (HE.out.trans hb)
        clear hb
        have HZ := Lib.hid (Blk.made wl113 (ints .i64 (List.replicate 16 0)) 48)
        have HEA := Lib.hid (Ext.alloc wl113 (.cells (ints .i64 (List.replicate 16 0)).toArray 48))
        have HI := Lib.hid (el_size lz)
        have HL : Hid ((ints .i64 z).length = (ints .i64 (List.replicate 16 0)).length) := Lib.hid (by rw [ints_length, lz]; rfl)
        go_upto_region 20 with (refine wpList_store_blk rfl _ _ _ rfl wl113.heap.size (ints .i64 z) rfl rfl _ _ HZ.out HL.out HI.out (ints_one _ _) ?_; intro wl114 hbm hgm)
        have HX := Lib.hid (ext_grown HEA.out hgm (Nat.le_refl _))
        obtain ⟨TEe, hT⟩ : ∃ T, T = wl113.heap.size := ⟨_, rfl⟩
        have HTEe : Hid (TBB < TEe) := Lib.hid (by rw [hT]; exact EBB.out.lt)
        rw [← hT] at hbm ⊢
        have Ex1 := Lib.hid (Ex1.out.ext HX.out)
        have Ex2 := Lib.hid (Ex2.out.ext HX.out)
        have Ez2 := Lib.hid (Ez2.out.ext HX.out)
        have Ex3 := Lib.hid (Ex3.out.ext HX.out)
        have Ez3 := Lib.hid (Ez3.out.ext HX.out)
        have EA := Lib.hid (EA.out.ext HX.out)
        have EAA := Lib.hid (EAA.out.ext HX.out)
        have EBb := Lib.hid (EBb.out.ext HX.out)
        have EBB := Lib.hid (EBB.out.ext HX.out)
        have HK := Lib.hid (ext_blk HK.out HX.out)
        have HR := Lib.hid (ext_blk HR.out HX.out)
        have HE := Lib.hid (HE.out.trans HX.out)
        have EEe : Hid (ElB wl114 TEe (((s.x3 + s.z3) * (s.x3 + s.z3)) - ((s.x3 - s.z3) * (s.x3 - s.z3)))) := Lib.hid ⟨z, lz, hbm, hr⟩
        have HO := Lib.hid (And.intro HO.out HTEe.out)
        clear hbm hgm HZ HEA HX hT hr HI HL lz
        obtain ⟨zx3, lx3, bx3, ex3⟩ := Ex3.out
        have Hbx3 := Lib.hid bx3
        have Hex3 := Lib.hid ex3
        have Hlx3 := Lib.hid lx3
        have Hix3 := Lib.hid (el_size lx3)
        clear bx3 ex3 lx3
        obtain ⟨zz3, lz3, bz3, ez3⟩ := Ez3.out
        have Hbz3 := Lib.hid bz3
        have Hez3 := Lib.hid ez3
        have Hlz3 := Lib.hid lz3
        have Hiz3 := Lib.hid (el_size lz3)
        clear bz3 ez3 lz3
        obtain ⟨zA, lA, bA, eA⟩ := EA.out
        have HbA := Lib.hid bA
        have HeA := Lib.hid eA
        have HlA := Lib.hid lA
        have HiA := Lib.hid (el_size lA)
        clear bA eA lA
        go_wp2_with fail
        try simp only [Act.put, List.getElem_toArray, List.getElem_cons_zero, List.getElem_cons_succ, List.setIfInBounds_toArray, List.set_cons_zero, List.set_cons_succ]
        go_cut [17] from 67 to 71 (fun vq wq => ∃ g, vq = .pointer (some ⟨g, 0, none⟩) ∧ wl114.heap.size ≤ g ∧ ElB wq g ((s.x2 - s.z2) * (s.x3 + s.z3)) ∧ Ext wl114 wq)
        case first =>
          have B0 : Ext wl114 wl114.drew := Ext.drew _
          refine wp_region_held_drew (S := fun w' => Ext wl114 w') (by kernel_rfl) B0 (fun hHeld => ?_)
          refine wpAnyH_take (i := 0) (v := .agg (ints .i64 zx3).toArray) rfl (by kernel_rfl) (by kernel_rfl) (by kernel_rfl) (fun _ _ _ h => h) (yieldsIf_load_mid (by rfl) _ _ rfl Tx3 0 rfl _ _ (fun w h => bl_range Hbx3.out h) Try.underlying48 rfl Hix3.out) hHeld ?_
          simp only [Act.put, List.getElem_toArray, List.getElem_cons_zero, List.getElem_cons_succ, List.setIfInBounds_toArray, List.set_cons_zero, List.set_cons_succ]
          refine wpAnyH_take (i := 1) (v := .agg (ints .i64 zz3).toArray) rfl (by kernel_rfl) (by kernel_rfl) (by kernel_rfl) (fun _ _ _ h => h) (yieldsIf_load_mid (by rfl) _ _ rfl Tz3 0 rfl _ _ (fun w h => bl_range Hbz3.out h) Try.underlying48 rfl Hiz3.out) hHeld ?_
          simp only [Act.put, List.getElem_toArray, List.getElem_cons_zero, List.getElem_cons_succ, List.setIfInBounds_toArray, List.set_cons_zero, List.set_cons_succ]
          refine wpAnyH_take (i := 3) (v := .agg (ints .i64 zA).toArray) rfl (by kernel_rfl) (by kernel_rfl) (by kernel_rfl) (fun _ _ _ h => h) (yieldsIf_load_mid (by rfl) _ _ rfl TA 0 rfl _ _ (fun w h => bl_range HbA.out h) Try.underlying48 rfl HiA.out) hHeld ?_
          simp only [Act.put, List.getElem_toArray, List.getElem_cons_zero, List.getElem_cons_succ, List.setIfInBounds_toArray, List.set_cons_zero, List.set_cons_succ]
          refine wpAnyH_ready (rs := [2, 5]) (by kernel_rfl) (by simp) (AllReadyH.cons rfl (fun K hK => ?_) (AllReadyH.cons rfl (fun K hK => ?_) AllReadyH.nil))
          · go_simp
            refine (rsub_f _ Hex3.out Hez3.out).mono ?_
            rintro e m1 ⟨v1, rfl, e1, b1⟩
            obtain ⟨z1, hz1, l1⟩ := e1.form
            subst hz1
            have N1 : Ext wl114 m1 := B0.trans b1
            refine hK.out _ _ N1 (fun hHeld => ?_)
            clear hK K
            try simp only [Act.put, List.getElem_toArray, List.getElem_cons_zero, List.getElem_cons_succ, List.setIfInBounds_toArray, List.set_cons_zero, List.set_cons_succ]
            refine wpAnyH_ready (rs := [4, 5]) (by kernel_rfl) (by simp) (AllReadyH.cons rfl (fun K hK => ?_) (AllReadyH.cons rfl (fun K hK => ?_) AllReadyH.nil))
            · go_simp
              refine (rmul_f _ e1 HeA.out).mono ?_
              rintro e m2 ⟨v2, rfl, e2, b2⟩
              obtain ⟨z2, hz2, l2⟩ := e2.form
              subst hz2
              have N2 : Ext wl114 m2 := N1.trans b2
              refine hK.out _ _ N2 (fun hHeld => ?_)
              clear hK K
              try simp only [Act.put, List.getElem_toArray, List.getElem_cons_zero, List.getElem_cons_succ, List.setIfInBounds_toArray, List.set_cons_zero, List.set_cons_succ]
              refine wpAnyH_ready (rs := [5]) (by kernel_rfl) (by simp) (AllReadyH.cons rfl (fun K hK => ?_) AllReadyH.nil)
              refine step_wp (by rfl) ?_
              refine wp_alloc_d (some 17) _ (ints .i64 (List.replicate 16 0)) rfl rfl Try.zeroValue48 ?_
              obtain ⟨m3, hm3⟩ : ∃ wNew, wNew = World.alloc m2 (.cells ((ints .i64 (List.replicate 16 0))).toArray 48) := ⟨_, rfl⟩
              rw [← hm3]
              have b3 : Ext m2 m3 := by rw [hm3]; exact Ext.alloc _ _
              obtain ⟨g3, hg3⟩ : ∃ gNew, gNew = (m2).heap.size := ⟨_, rfl⟩
              rw [← hg3]
              have z3 : Blk m3 g3 (ints .i64 (List.replicate 16 0)) 48 := by rw [hm3, hg3]; exact Blk.made _ _ _
              have l3 : (wl114).heap.size ≤ g3 := by rw [hg3]; exact N2.size
              clear hm3 hg3
              have N3 : Ext wl114 m3 := N2.trans b3
              refine hK.out _ _ N3 (fun hHeld => ?_)
              clear hK K
              try simp only [Act.put, List.getElem_toArray, List.getElem_cons_zero, List.getElem_cons_succ, List.setIfInBounds_toArray, List.set_cons_zero, List.set_cons_succ]
              refine wpAnyH_ready (rs := [6]) (by kernel_rfl) (by simp) (AllReadyH.cons rfl (fun K hK => ?_) AllReadyH.nil)
              refine step_wp (by rfl) ?_
              refine wp_store_blk _ _ _ rfl g3 (ints .i64 z2) rfl rfl _ _ z3 (by rw [ints_length, l2]; rfl) (el_size l2) (ints_one _ _) ?_
              intro m4 hb4 hg4
              have N4 : Ext wl114 m4 := ext_grown N3 hg4 l3
              refine hK.out _ _ N4 (fun hHeld => ?_)
              clear hK K
              try simp only [Act.put, List.getElem_toArray, List.getElem_cons_zero, List.getElem_cons_succ, List.setIfInBounds_toArray, List.set_cons_zero, List.set_cons_succ]
              refine wpAnyH_done (by kernel_rfl) ?_ _
              go_wp2_with fail
              go_meet
              exact ⟨_, rfl, l3, ⟨z2, l2, hb4, e2⟩, N4⟩
            · refine step_wp (by rfl) ?_
              refine wp_alloc_d (some 17) _ (ints .i64 (List.replicate 16 0)) rfl rfl Try.zeroValue48 ?_
              obtain ⟨m2, hm2⟩ : ∃ wNew, wNew = World.alloc m1 (.cells ((ints .i64 (List.replicate 16 0))).toArray 48) := ⟨_, rfl⟩
              rw [← hm2]
              have b2 : Ext m1 m2 := by rw [hm2]; exact Ext.alloc _ _
              obtain ⟨g2, hg2⟩ : ∃ gNew, gNew = (m1).heap.size := ⟨_, rfl⟩
              rw [← hg2]
              have z2 : Blk m2 g2 (ints .i64 (List.replicate 16 0)) 48 := by rw [hm2, hg2]; exact Blk.made _ _ _
              have l2 : (wl114).heap.size ≤ g2 := by rw [hg2]; exact N1.size
              clear hm2 hg2
              have N2 : Ext wl114 m2 := N1.trans b2
              refine hK.out _ _ N2 (fun hHeld => ?_)
              clear hK K
              try simp only [Act.put, List.getElem_toArray, List.getElem_cons_zero, List.getElem_cons_succ, List.setIfInBounds_toArray, List.set_cons_zero, List.set_cons_succ]
              refine wpAnyH_ready (rs := [4]) (by kernel_rfl) (by simp) (AllReadyH.cons rfl (fun K hK => ?_) AllReadyH.nil)
              go_simp
              refine (rmul_f _ e1 HeA.out).mono ?_
              rintro e m3 ⟨v3, rfl, e3, b3⟩
              obtain ⟨z3, hz3, l3⟩ := e3.form
              subst hz3
              have z2 := z2.below b3
              have N3 : Ext wl114 m3 := N2.trans b3
              refine hK.out _ _ N3 (fun hHeld => ?_)
              clear hK K
              try simp only [Act.put, List.getElem_toArray, List.getElem_cons_zero, List.getElem_cons_succ, List.setIfInBounds_toArray, List.set_cons_zero, List.set_cons_succ]
              refine wpAnyH_ready (rs := [6]) (by kernel_rfl) (by simp) (AllReadyH.cons rfl (fun K hK => ?_) AllReadyH.nil)
              refine step_wp (by rfl) ?_
              refine wp_store_blk _ _ _ rfl g2 (ints .i64 z3) rfl rfl _ _ z2 (by rw [ints_length, l3]; rfl) (el_size l3) (ints_one _ _) ?_
              intro m4 hb4 hg4
              have N4 : Ext wl114 m4 := ext_grown N3 hg4 l2
              refine hK.out _ _ N4 (fun hHeld => ?_)
              clear hK K
              try simp only [Act.put, List.getElem_toArray, List.getElem_cons_zero, List.getElem_cons_succ, List.setIfInBounds_toArray, List.set_cons_zero, List.set_cons_succ]
              refine wpAnyH_done (by kernel_rfl) ?_ _
              go_wp2_with fail
              go_meet
              exact ⟨_, rfl, l2, ⟨z3, l3, hb4, e3⟩, N4⟩
          · refine step_wp (by rfl) ?_
            refine wp_alloc_d (some 17) _ (ints .i64 (List.replicate 16 0)) rfl rfl Try.zeroValue48 ?_
            obtain ⟨m1, hm1⟩ : ∃ wNew, wNew = World.alloc wl114.drew (.cells ((ints .i64 (List.replicate 16 0))).toArray 48) := ⟨_, rfl⟩
            rw [← hm1]
            have b1 : Ext wl114.drew m1 := by rw [hm1]; exact Ext.alloc _ _
            obtain ⟨g1, hg1⟩ : ∃ gNew, gNew = (wl114.drew).heap.size := ⟨_, rfl⟩
            rw [← hg1]
            have z1 : Blk m1 g1 (ints .i64 (List.replicate 16 0)) 48 := by rw [hm1, hg1]; exact Blk.made _ _ _
            have l1 : (wl114).heap.size ≤ g1 := by rw [hg1]; exact B0.size
            clear hm1 hg1
            have N1 : Ext wl114 m1 := B0.trans b1
            refine hK.out _ _ N1 (fun hHeld => ?_)
            clear hK K
            try simp only [Act.put, List.getElem_toArray, List.getElem_cons_zero, List.getElem_cons_succ, List.setIfInBounds_toArray, List.set_cons_zero, List.set_cons_succ]
            refine wpAnyH_ready (rs := [2]) (by kernel_rfl) (by simp) (AllReadyH.cons rfl (fun K hK => ?_) AllReadyH.nil)
            go_simp
            refine (rsub_f _ Hex3.out Hez3.out).mono ?_
            rintro e m2 ⟨v2, rfl, e2, b2⟩
            obtain ⟨z2, hz2, l2⟩ := e2.form
            subst hz2
            have z1 := z1.below b2
            have N2 : Ext wl114 m2 := N1.trans b2
            refine hK.out _ _ N2 (fun hHeld => ?_)
            clear hK K
            try simp only [Act.put, List.getElem_toArray, List.getElem_cons_zero, List.getElem_cons_succ, List.setIfInBounds_toArray, List.set_cons_zero, List.set_cons_succ]
            refine wpAnyH_ready (rs := [4]) (by kernel_rfl) (by simp) (AllReadyH.cons rfl (fun K hK => ?_) AllReadyH.nil)
            go_simp
            refine (rmul_f _ e2 HeA.out).mono ?_
            rintro e m3 ⟨v3, rfl, e3, b3⟩
            obtain ⟨z3, hz3, l3⟩ := e3.form
            subst hz3
            have z1 := z1.below b3
            have N3 : Ext wl114 m3 := N2.trans b3
            refine hK.out _ _ N3 (fun hHeld => ?_)
            clear hK K
            try simp only [Act.put, List.getElem_toArray, List.getElem_cons_zero, List.getElem_cons_succ, List.setIfInBounds_toArray, List.set_cons_zero, List.set_cons_succ]
            refine wpAnyH_ready (rs := [6]) (by kernel_rfl) (by simp) (AllReadyH.cons rfl (fun K hK => ?_) AllReadyH.nil)
            refine step_wp (by rfl) ?_
            refine wp_store_blk _ _ _ rfl g1 (ints .i64 z3) rfl rfl _ _ z1 (by rw [ints_length, l3]; rfl) (el_size l3) (ints_one _ _) ?_
            intro m4 hb4 hg4
            have N4 : Ext wl114 m4 := ext_grown N3 hg4 l1
            refine hK.out _ _ N4 (fun hHeld => ?_)
            clear hK K
            try simp only [Act.put, List.getElem_toArray, List.getElem_cons_zero, List.getElem_cons_succ, List.setIfInBounds_toArray, List.set_cons_zero, List.set_cons_succ]
            refine wpAnyH_done (by kernel_rfl) ?_ _
            go_wp2_with fail
            go_meet
            exact ⟨_, rfl, l1, ⟨z3, l3, hb4, e3⟩, N4⟩
        case rest =>
          obtain ⟨TDA, rfl, hTg, hEl, hX⟩ := hcut
          have HTDA : Hid (TEe < TDA) := Lib.hid (Nat.lt_of_lt_of_le EEe.out.lt hTg)
          have Ex1 := Lib.hid (Ex1.out.ext hX)
          have Ex2 := Lib.hid (Ex2.out.ext hX)
          have Ez2 := Lib.hid (Ez2.out.ext hX)
          have Ex3 := Lib.hid (Ex3.out.ext hX)
          have Ez3 := Lib.hid (Ez3.out.ext hX)
          have EA := Lib.hid (EA.out.ext hX)
          have EAA := Lib.hid (EAA.out.ext hX)
          have EBb := Lib.hid (EBb.out.ext hX)
          have EBB := Lib.hid (EBB.out.ext hX)
          have EEe := Lib.hid (EEe.out.ext hX)
          have HK := Lib.hid (ext_blk HK.out hX)
          have HR := Lib.hid (ext_blk HR.out hX)
          have HE := Lib.hid (HE.out.trans hX)
          have EDA := Lib.hid hEl
          have HO := Lib.hid (And.intro HO.out HTDA.out)
          clear hEl hX hTg
          generalize wc = wl115 at *
          go_wp2_with fail
          obtain ⟨zx3, lx3, bx3, ex3⟩ := Ex3.out
          have Hbx3 := Lib.hid bx3
          have Hex3 := Lib.hid ex3
          have Hlx3 := Lib.hid lx3
          have Hix3 := Lib.hid (el_size lx3)
          clear bx3 ex3 lx3
          obtain ⟨zz3, lz3, bz3, ez3⟩ := Ez3.out
          have Hbz3 := Lib.hid bz3
          have Hez3 := Lib.hid ez3
          have Hlz3 := Lib.hid lz3
          have Hiz3 := Lib.hid (el_size lz3)
          clear bz3 ez3 lz3
          obtain ⟨zBb, lBb, bBb, eBb⟩ := EBb.out
          have HbBb := Lib.hid bBb
          have HeBb := Lib.hid eBb
          have HlBb := Lib.hid lBb
          have HiBb := Lib.hid (el_size lBb)
          clear bBb eBb lBb
          go_wp2_with fail
          try simp only [Act.put, List.getElem_toArray, List.getElem_cons_zero, List.getElem_cons_succ, List.setIfInBounds_toArray, List.set_cons_zero, List.set_cons_succ]
          go_cut [18] from 72 to 76 (fun vq wq => ∃ g, vq = .pointer (some ⟨g, 0, none⟩) ∧ wl115.heap.size ≤ g ∧ ElB wq g ((s.x2 + s.z2) * (s.x3 - s.z3)) ∧ Ext wl115 wq)
          case first =>
            have B0 : Ext wl115 wl115.drew := Ext.drew _
            refine wp_region_held_drew (S := fun w' => Ext wl115 w') (by kernel_rfl) B0 (fun hHeld => ?_)
            refine wpAnyH_take (i := 0) (v := .agg (ints .i64 zx3).toArray) rfl (by kernel_rfl) (by kernel_rfl) (by kernel_rfl) (fun _ _ _ h => h) (yieldsIf_load_mid (by rfl) _ _ rfl Tx3 0 rfl _ _ (fun w h => bl_range Hbx3.out h) Try.underlying48 rfl Hix3.out) hHeld ?_
            simp only [Act.put, List.getElem_toArray, List.getElem_cons_zero, List.getElem_cons_succ, List.setIfInBounds_toArray, List.set_cons_zero, List.set_cons_succ]
            refine wpAnyH_take (i := 1) (v := .agg (ints .i64 zz3).toArray) rfl (by kernel_rfl) (by kernel_rfl) (by kernel_rfl) (fun _ _ _ h => h) (yieldsIf_load_mid (by rfl) _ _ rfl Tz3 0 rfl _ _ (fun w h => bl_range Hbz3.out h) Try.underlying48 rfl Hiz3.out) hHeld ?_
            simp only [Act.put, List.getElem_toArray, List.getElem_cons_zero, List.getElem_cons_succ, List.setIfInBounds_toArray, List.set_cons_zero, List.set_cons_succ]
            refine wpAnyH_take (i := 3) (v := .agg (ints .i64 zBb).toArray) rfl (by kernel_rfl) (by kernel_rfl) (by kernel_rfl) (fun _ _ _ h => h) (yieldsIf_load_mid (by rfl) _ _ rfl TBb 0 rfl _ _ (fun w h => bl_range HbBb.out h) Try.underlying48 rfl HiBb.out) hHeld ?_
            simp only [Act.put, List.getElem_toArray, List.getElem_cons_zero, List.getElem_cons_succ, List.setIfInBounds_toArray, List.set_cons_zero, List.set_cons_succ]
            refine wpAnyH_ready (rs := [2, 5]) (by kernel_rfl) (by simp) (AllReadyH.cons rfl (fun K hK => ?_) (AllReadyH.cons rfl (fun K hK => ?_) AllReadyH.nil))
            · go_simp
              refine (radd_f _ Hex3.out Hez3.out).mono ?_
              rintro e m1 ⟨v1, rfl, e1, b1⟩
              obtain ⟨z1, hz1, l1⟩ := e1.form
              subst hz1
              have N1 : Ext wl115 m1 := B0.trans b1
              refine hK.out _ _ N1 (fun hHeld => ?_)
              clear hK K
              try simp only [Act.put, List.getElem_toArray, List.getElem_cons_zero, List.getElem_cons_succ, List.setIfInBounds_toArray, List.set_cons_zero, List.set_cons_succ]
              refine wpAnyH_ready (rs := [4, 5]) (by kernel_rfl) (by simp) (AllReadyH.cons rfl (fun K hK => ?_) (AllReadyH.cons rfl (fun K hK => ?_) AllReadyH.nil))
              · go_simp
                refine (rmul_f _ e1 HeBb.out).mono ?_
                rintro e m2 ⟨v2, rfl, e2, b2⟩
                obtain ⟨z2, hz2, l2⟩ := e2.form
                subst hz2
                have N2 : Ext wl115 m2 := N1.trans b2
                refine hK.out _ _ N2 (fun hHeld => ?_)
                clear hK K
                try simp only [Act.put, List.getElem_toArray, List.getElem_cons_zero, List.getElem_cons_succ, List.setIfInBounds_toArray, List.set_cons_zero, List.set_cons_succ]
                refine wpAnyH_ready (rs := [5]) (by kernel_rfl) (by simp) (AllReadyH.cons rfl (fun K hK => ?_) AllReadyH.nil)
                refine step_wp (by rfl) ?_
                refine wp_alloc_d (some 18) _ (ints .i64 (List.replicate 16 0)) rfl rfl Try.zeroValue48 ?_
                obtain ⟨m3, hm3⟩ : ∃ wNew, wNew = World.alloc m2 (.cells ((ints .i64 (List.replicate 16 0))).toArray 48) := ⟨_, rfl⟩
                rw [← hm3]
                have b3 : Ext m2 m3 := by rw [hm3]; exact Ext.alloc _ _
                obtain ⟨g3, hg3⟩ : ∃ gNew, gNew = (m2).heap.size := ⟨_, rfl⟩
                rw [← hg3]
                have z3 : Blk m3 g3 (ints .i64 (List.replicate 16 0)) 48 := by rw [hm3, hg3]; exact Blk.made _ _ _
                have l3 : (wl115).heap.size ≤ g3 := by rw [hg3]; exact N2.size
                clear hm3 hg3
                have N3 : Ext wl115 m3 := N2.trans b3
                refine hK.out _ _ N3 (fun hHeld => ?_)
                clear hK K
                try simp only [Act.put, List.getElem_toArray, List.getElem_cons_zero, List.getElem_cons_succ, List.setIfInBounds_toArray, List.set_cons_zero, List.set_cons_succ]
                refine wpAnyH_ready (rs := [6]) (by kernel_rfl) (by simp) (AllReadyH.cons rfl (fun K hK => ?_) AllReadyH.nil)
                refine step_wp (by rfl) ?_
                refine wp_store_blk _ _ _ rfl g3 (ints .i64 z2) rfl rfl _ _ z3 (by rw [ints_length, l2]; rfl) (el_size l2) (ints_one _ _) ?_
                intro m4 hb4 hg4
                have N4 : Ext wl115 m4 := ext_grown N3 hg4 l3
                refine hK.out _ _ N4 (fun hHeld => ?_)
                clear hK K
                try simp only [Act.put, List.getElem_toArray, List.getElem_cons_zero, List.getElem_cons_succ, List.setIfInBounds_toArray, List.set_cons_zero, List.set_cons_succ]
                refine wpAnyH_done (by kernel_rfl) ?_ _
                go_wp2_with fail
                go_meet
                exact ⟨_, rfl, l3, ⟨z2, l2, hb4, e2⟩, N4⟩
              · refine step_wp (by rfl) ?_
                refine wp_alloc_d (some 18) _ (ints .i64 (List.replicate 16 0)) rfl rfl Try.zeroValue48 ?_
                obtain ⟨m2, hm2⟩ : ∃ wNew, wNew = World.alloc m1 (.cells ((ints .i64 (List.replicate 16 0))).toArray 48) := ⟨_, rfl⟩
                rw [← hm2]
                have b2 : Ext m1 m2 := by rw [hm2]; exact Ext.alloc _ _
                obtain ⟨g2, hg2⟩ : ∃ gNew, gNew = (m1).heap.size := ⟨_, rfl⟩
                rw [← hg2]
                have z2 : Blk m2 g2 (ints .i64 (List.replicate 16 0)) 48 := by rw [hm2, hg2]; exact Blk.made _ _ _
                have l2 : (wl115).heap.size ≤ g2 := by rw [hg2]; exact N1.size
                clear hm2 hg2
                have N2 : Ext wl115 m2 := N1.trans b2
                refine hK.out _ _ N2 (fun hHeld => ?_)
                clear hK K
                try simp only [Act.put, List.getElem_toArray, List.getElem_cons_zero, List.getElem_cons_succ, List.setIfInBounds_toArray, List.set_cons_zero, List.set_cons_succ]
                refine wpAnyH_ready (rs := [4]) (by kernel_rfl) (by simp) (AllReadyH.cons rfl (fun K hK => ?_) AllReadyH.nil)
                go_simp
                refine (rmul_f _ e1 HeBb.out).mono ?_
                rintro e m3 ⟨v3, rfl, e3, b3⟩
                obtain ⟨z3, hz3, l3⟩ := e3.form
                subst hz3
                have z2 := z2.below b3
                have N3 : Ext wl115 m3 := N2.trans b3
                refine hK.out _ _ N3 (fun hHeld => ?_)
                clear hK K
                try simp only [Act.put, List.getElem_toArray, List.getElem_cons_zero, List.getElem_cons_succ, List.setIfInBounds_toArray, List.set_cons_zero, List.set_cons_succ]
                refine wpAnyH_ready (rs := [6]) (by kernel_rfl) (by simp) (AllReadyH.cons rfl (fun K hK => ?_) AllReadyH.nil)
                refine step_wp (by rfl) ?_
                refine wp_store_blk _ _ _ rfl g2 (ints .i64 z3) rfl rfl _ _ z2 (by rw [ints_length, l3]; rfl) (el_size l3) (ints_one _ _) ?_
                intro m4 hb4 hg4
                have N4 : Ext wl115 m4 := ext_grown N3 hg4 l2
                refine hK.out _ _ N4 (fun hHeld => ?_)
                clear hK K
                try simp only [Act.put, List.getElem_toArray, List.getElem_cons_zero, List.getElem_cons_succ, List.setIfInBounds_toArray, List.set_cons_zero, List.set_cons_succ]
                refine wpAnyH_done (by kernel_rfl) ?_ _
                go_wp2_with fail
                go_meet
                exact ⟨_, rfl, l2, ⟨z3, l3, hb4, e3⟩, N4⟩
            · refine step_wp (by rfl) ?_
              refine wp_alloc_d (some 18) _ (ints .i64 (List.replicate 16 0)) rfl rfl Try.zeroValue48 ?_
              obtain ⟨m1, hm1⟩ : ∃ wNew, wNew = World.alloc wl115.drew (.cells ((ints .i64 (List.replicate 16 0))).toArray 48) := ⟨_, rfl⟩
              rw [← hm1]
              have b1 : Ext wl115.drew m1 := by rw [hm1]; exact Ext.alloc _ _
              obtain ⟨g1, hg1⟩ : ∃ gNew, gNew = (wl115.drew).heap.size := ⟨_, rfl⟩
              rw [← hg1]
              have z1 : Blk m1 g1 (ints .i64 (List.replicate 16 0)) 48 := by rw [hm1, hg1]; exact Blk.made _ _ _
              have l1 : (wl115).heap.size ≤ g1 := by rw [hg1]; exact B0.size
              clear hm1 hg1
              have N1 : Ext wl115 m1 := B0.trans b1
              refine hK.out _ _ N1 (fun hHeld => ?_)
              clear hK K
              try simp only [Act.put, List.getElem_toArray, List.getElem_cons_zero, List.getElem_cons_succ, List.setIfInBounds_toArray, List.set_cons_zero, List.set_cons_succ]
              refine wpAnyH_ready (rs := [2]) (by kernel_rfl) (by simp) (AllReadyH.cons rfl (fun K hK => ?_) AllReadyH.nil)
              go_simp
              refine (radd_f _ Hex3.out Hez3.out).mono ?_
              rintro e m2 ⟨v2, rfl, e2, b2⟩
              obtain ⟨z2, hz2, l2⟩ := e2.form
              subst hz2
              have z1 := z1.below b2
              have N2 : Ext wl115 m2 := N1.trans b2
              refine hK.out _ _ N2 (fun hHeld => ?_)
              clear hK K
              try simp only [Act.put, List.getElem_toArray, List.getElem_cons_zero, List.getElem_cons_succ, List.setIfInBounds_toArray, List.set_cons_zero, List.set_cons_succ]
              refine wpAnyH_ready (rs := [4]) (by kernel_rfl) (by simp) (AllReadyH.cons rfl (fun K hK => ?_) AllReadyH.nil)
              go_simp
              refine (rmul_f _ e2 HeBb.out).mono ?_
              rintro e m3 ⟨v3, rfl, e3, b3⟩
              obtain ⟨z3, hz3, l3⟩ := e3.form
              subst hz3
              have z1 := z1.below b3
              have N3 : Ext wl115 m3 := N2.trans b3
              refine hK.out _ _ N3 (fun hHeld => ?_)
              clear hK K
              try simp only [Act.put, List.getElem_toArray, List.getElem_cons_zero, List.getElem_cons_succ, List.setIfInBounds_toArray, List.set_cons_zero, List.set_cons_succ]
              refine wpAnyH_ready (rs := [6]) (by kernel_rfl) (by simp) (AllReadyH.cons rfl (fun K hK => ?_) AllReadyH.nil)
              refine step_wp (by rfl) ?_
              refine wp_store_blk _ _ _ rfl g1 (ints .i64 z3) rfl rfl _ _ z1 (by rw [ints_length, l3]; rfl) (el_size l3) (ints_one _ _) ?_
              intro m4 hb4 hg4
              have N4 : Ext wl115 m4 := ext_grown N3 hg4 l1
              refine hK.out _ _ N4 (fun hHeld => ?_)
              clear hK K
              try simp only [Act.put, List.getElem_toArray, List.getElem_cons_zero, List.getElem_cons_succ, List.setIfInBounds_toArray, List.set_cons_zero, List.set_cons_succ]
              refine wpAnyH_done (by kernel_rfl) ?_ _
              go_wp2_with fail
              go_meet
              exact ⟨_, rfl, l1, ⟨z3, l3, hb4, e3⟩, N4⟩
          case rest =>
            obtain ⟨TCB, rfl, hTg, hEl, hX⟩ := hcut
            have HTCB : Hid (TDA < TCB) := Lib.hid (Nat.lt_of_lt_of_le EDA.out.lt hTg)
            have Ex1 := Lib.hid (Ex1.out.ext hX)
            have Ex2 := Lib.hid (Ex2.out.ext hX)
            have Ez2 := Lib.hid (Ez2.out.ext hX)
            have Ex3 := Lib.hid (Ex3.out.ext hX)
            have Ez3 := Lib.hid (Ez3.out.ext hX)
            have EA := Lib.hid (EA.out.ext hX)
            have EAA := Lib.hid (EAA.out.ext hX)
            have EBb := Lib.hid (EBb.out.ext hX)
            have EBB := Lib.hid (EBB.out.ext hX)
            have EEe := Lib.hid (EEe.out.ext hX)
            have EDA := Lib.hid (EDA.out.ext hX)
            have HK := Lib.hid (ext_blk HK.out hX)
            have HR := Lib.hid (ext_blk HR.out hX)
            have HE := Lib.hid (HE.out.trans hX)
            have ECB := Lib.hid hEl
            have HO := Lib.hid (And.intro HO.out HTCB.out)
            clear hEl hX hTg
            generalize wc = wl116 at *
            obtain ⟨zDA, lDA, bDA, eDA⟩ := EDA.out
            have HbDA := Lib.hid bDA
            have HeDA := Lib.hid eDA
            have HlDA := Lib.hid lDA
            have HiDA := Lib.hid (el_size lDA)
            clear bDA eDA lDA
            obtain ⟨zCB, lCB, bCB, eCB⟩ := ECB.out
            have HbCB := Lib.hid bCB
            have HeCB := Lib.hid eCB
            have HlCB := Lib.hid lCB
            have HiCB := Lib.hid (el_size lCB)
            clear bCB eCB lCB
            go_wp2_with (first | (refine wpList_load_blk rfl _ _ rfl TDA rfl _ _ _ _ HbDA.out Try.underlying48 HiDA.out ?_) | (refine wpList_load_blk rfl _ _ rfl TCB rfl _ _ _ _ HbCB.out Try.underlying48 HiCB.out ?_))
            refine (radd_f wl116 HeDA.out HeCB.out).mono ?_
            rintro e wl117 ⟨r, rfl, hr, hb⟩
            obtain ⟨z, hz, lz⟩ := hr.form
            subst hz
            have Ex1 := Lib.hid (Ex1.out.ext hb)
            have Ex2 := Lib.hid (Ex2.out.ext hb)
            have Ez2 := Lib.hid (Ez2.out.ext hb)
            have Ex3 := Lib.hid (Ex3.out.ext hb)
            have Ez3 := Lib.hid (Ez3.out.ext hb)
            have EA := Lib.hid (EA.out.ext hb)
            have EAA := Lib.hid (EAA.out.ext hb)
            have EBb := Lib.hid (EBb.out.ext hb)
            have EBB := Lib.hid (EBB.out.ext hb)
            have EEe := Lib.hid (EEe.out.ext hb)
            have EDA := Lib.hid (EDA.out.ext hb)
            have ECB := Lib.hid (ECB.out.ext hb)
            have HK := Lib.hid (ext_blk HK.out hb)
            have HR := Lib.hid (ext_blk HR.out hb)
            have HE := Lib.hid (HE.out.trans hb)
            clear hb
            have HZ := Lib.hid (Blk.made wl117 (ints .i64 (List.replicate 16 0)) 48)
            have HEA := Lib.hid (Ext.alloc wl117 (.cells (ints .i64 (List.replicate 16 0)).toArray 48))
            have HI := Lib.hid (el_size lz)
            have HL : Hid ((ints .i64 z).length = (ints .i64 (List.replicate 16 0)).length) := Lib.hid (by rw [ints_length, lz]; rfl)
            go_upto_region 23 with (refine wpList_store_blk rfl _ _ _ rfl wl117.heap.size (ints .i64 z) rfl rfl _ _ HZ.out HL.out HI.out (ints_one _ _) ?_; intro wl118 hbm hgm)
            have HX := Lib.hid (ext_grown HEA.out hgm (Nat.le_refl _))
            obtain ⟨TS, hT⟩ : ∃ T, T = wl117.heap.size := ⟨_, rfl⟩
            have HTS : Hid (TCB < TS) := Lib.hid (by rw [hT]; exact ECB.out.lt)
            rw [← hT] at hbm ⊢
            have Ex1 := Lib.hid (Ex1.out.ext HX.out)
            have Ex2 := Lib.hid (Ex2.out.ext HX.out)
            have Ez2 := Lib.hid (Ez2.out.ext HX.out)
            have Ex3 := Lib.hid (Ex3.out.ext HX.out)
            have Ez3 := Lib.hid (Ez3.out.ext HX.out)
            have EA := Lib.hid (EA.out.ext HX.out)
            have EAA := Lib.hid (EAA.out.ext HX.out)
            have EBb := Lib.hid (EBb.out.ext HX.out)
            have EBB := Lib.hid (EBB.out.ext HX.out)
            have EEe := Lib.hid (EEe.out.ext HX.out)
            have EDA := Lib.hid (EDA.out.ext HX.out)
            have ECB := Lib.hid (ECB.out.ext HX.out)
            have HK := Lib.hid (ext_blk HK.out HX.out)
            have HR := Lib.hid (ext_blk HR.out HX.out)
            have HE := Lib.hid (HE.out.trans HX.out)
            have ES : Hid (ElB wl118 TS (((s.x2 - s.z2) * (s.x3 + s.z3)) + ((s.x2 + s.z2) * (s.x3 - s.z3)))) := Lib.hid ⟨z, lz, hbm, hr⟩
            have HO := Lib.hid (And.intro HO.out HTS.out)
            clear hbm hgm HZ HEA HX hT hr HI HL lz
            obtain ⟨zDA, lDA, bDA, eDA⟩ := EDA.out
            have HbDA := Lib.hid bDA
            have HeDA := Lib.hid eDA
            have HlDA := Lib.hid lDA
            have HiDA := Lib.hid (el_size lDA)
            clear bDA eDA lDA
            obtain ⟨zCB, lCB, bCB, eCB⟩ := ECB.out
            have HbCB := Lib.hid bCB
            have HeCB := Lib.hid eCB
            have HlCB := Lib.hid lCB
            have HiCB := Lib.hid (el_size lCB)
            clear bCB eCB lCB
            go_wp2_with (first | (refine wpList_load_blk rfl _ _ rfl TDA rfl _ _ _ _ HbDA.out Try.underlying48 HiDA.out ?_) | (refine wpList_load_blk rfl _ _ rfl TCB rfl _ _ _ _ HbCB.out Try.underlying48 HiCB.out ?_))
            refine (rsub_f wl118 HeDA.out HeCB.out).mono ?_
            rintro e wl119 ⟨r, rfl, hr, hb⟩
            obtain ⟨z, hz, lz⟩ := hr.form
            subst hz
            have Ex1 := Lib.hid (Ex1.out.ext hb)
            have Ex2 := Lib.hid (Ex2.out.ext hb)
            have Ez2 := Lib.hid (Ez2.out.ext hb)
            have Ex3 := Lib.hid (Ex3.out.ext hb)
            have Ez3 := Lib.hid (Ez3.out.ext hb)
            have EA := Lib.hid (EA.out.ext hb)
            have EAA := Lib.hid (EAA.out.ext hb)
            have EBb := Lib.hid (EBb.out.ext hb)
            have EBB := Lib.hid (EBB.out.ext hb)
            have EEe := Lib.hid (EEe.out.ext hb)
            have EDA := Lib.hid (EDA.out.ext hb)
            have ECB := Lib.hid (ECB.out.ext hb)
            have ES := Lib.hid (ES.out.ext hb)
            have HK := Lib.hid (ext_blk HK.out hb)
            have HR := Lib.hid (ext_blk HR.out hb)
            have HE := Lib.hid (HE.out.trans hb)
            clear hb
            have HZ := Lib.hid (Blk.made wl119 (ints .i64 (List.replicate 16 0)) 48)
            have HEA := Lib.hid (Ext.alloc wl119 (.cells (ints .i64 (List.replicate 16 0)).toArray 48))
            have HI := Lib.hid (el_size lz)
            have HL : Hid ((ints .i64 z).length = (ints .i64 (List.replicate 16 0)).length) := Lib.hid (by rw [ints_length, lz]; rfl)
            go_upto_region 24 with (refine wpList_store_blk rfl _ _ _ rfl wl119.heap.size (ints .i64 z) rfl rfl _ _ HZ.out HL.out HI.out (ints_one _ _) ?_; intro wl120 hbm hgm)
            have HX := Lib.hid (ext_grown HEA.out hgm (Nat.le_refl _))
            obtain ⟨TDd, hT⟩ : ∃ T, T = wl119.heap.size := ⟨_, rfl⟩
            have HTDd : Hid (TS < TDd) := Lib.hid (by rw [hT]; exact ES.out.lt)
            rw [← hT] at hbm ⊢
            have Ex1 := Lib.hid (Ex1.out.ext HX.out)
            have Ex2 := Lib.hid (Ex2.out.ext HX.out)
            have Ez2 := Lib.hid (Ez2.out.ext HX.out)
            have Ex3 := Lib.hid (Ex3.out.ext HX.out)
            have Ez3 := Lib.hid (Ez3.out.ext HX.out)
            have EA := Lib.hid (EA.out.ext HX.out)
            have EAA := Lib.hid (EAA.out.ext HX.out)
            have EBb := Lib.hid (EBb.out.ext HX.out)
            have EBB := Lib.hid (EBB.out.ext HX.out)
            have EEe := Lib.hid (EEe.out.ext HX.out)
            have EDA := Lib.hid (EDA.out.ext HX.out)
            have ECB := Lib.hid (ECB.out.ext HX.out)
            have ES := Lib.hid (ES.out.ext HX.out)
            have HK := Lib.hid (ext_blk HK.out HX.out)
            have HR := Lib.hid (ext_blk HR.out HX.out)
            have HE := Lib.hid (HE.out.trans HX.out)
            have EDd : Hid (ElB wl120 TDd (((s.x2 - s.z2) * (s.x3 + s.z3)) - ((s.x2 + s.z2) * (s.x3 - s.z3)))) := Lib.hid ⟨z, lz, hbm, hr⟩
            have HO := Lib.hid (And.intro HO.out HTDd.out)
            clear hbm hgm HZ HEA HX hT hr HI HL lz
            obtain ⟨zS, lS, bS, eS⟩ := ES.out
            have HbS := Lib.hid bS
            have HeS := Lib.hid eS
            have HlS := Lib.hid lS
            have HiS := Lib.hid (el_size lS)
            clear bS eS lS
            go_wp2_with (first | (refine wpList_load_blk rfl _ _ rfl TS rfl _ _ _ _ HbS.out Try.underlying48 HiS.out ?_))
            refine (rmul_f wl120 HeS.out HeS.out).mono ?_
            rintro e wl121 ⟨r, rfl, hr, hb⟩
            obtain ⟨z, hz, lz⟩ := hr.form
            subst hz
            have Ex1 := Lib.hid (Ex1.out.ext hb)
            have Ex2 := Lib.hid (Ex2.out.ext hb)
            have Ez2 := Lib.hid (Ez2.out.ext hb)
            have Ex3 := Lib.hid (Ex3.out.ext hb)
            have Ez3 := Lib.hid (Ez3.out.ext hb)
            have EA := Lib.hid (EA.out.ext hb)
            have EAA := Lib.hid (EAA.out.ext hb)
            have EBb := Lib.hid (EBb.out.ext hb)
            have EBB := Lib.hid (EBB.out.ext hb)
            have EEe := Lib.hid (EEe.out.ext hb)
            have EDA := Lib.hid (EDA.out.ext hb)
            have ECB := Lib.hid (ECB.out.ext hb)
            have ES := Lib.hid (ES.out.ext hb)
            have EDd := Lib.hid (EDd.out.ext hb)
            have HK := Lib.hid (ext_blk HK.out hb)
            have HR := Lib.hid (ext_blk HR.out hb)
            have HE := Lib.hid (HE.out.trans hb)
            clear hb
            obtain ⟨zx3, lx3, bx3, ex3⟩ := Ex3.out
            have Hbx3 := Lib.hid bx3
            have Hex3 := Lib.hid ex3
            have Hlx3 := Lib.hid lx3
            have Hix3 := Lib.hid (el_size lx3)
            clear bx3 ex3 lx3
            have HI := Lib.hid (el_size lz)
            have HL : Hid ((ints .i64 z).length = (ints .i64 zx3).length) := Lib.hid (by rw [ints_length, ints_length, lz, Hlx3.out])
            go_upto_region 25 with (refine wpList_store_blk rfl _ _ _ rfl Tx3 (ints .i64 z) rfl rfl _ _ Hbx3.out HL.out HI.out (ints_one _ _) ?_; intro wl122 hbm hgm)
            have Ex1 := Lib.hid (Ex1.out.grown hgm (by have := HO.out; simp; omega))
            have Ex2 := Lib.hid (Ex2.out.grown hgm (by have := HO.out; simp; omega))
            have Ez2 := Lib.hid (Ez2.out.grown hgm (by have := HO.out; simp; omega))
            have Ez3 := Lib.hid (Ez3.out.grown hgm (by have := HO.out; simp; omega))
            have EA := Lib.hid (EA.out.grown hgm (by have := HO.out; simp; omega))
            have EAA := Lib.hid (EAA.out.grown hgm (by have := HO.out; simp; omega))
            have EBb := Lib.hid (EBb.out.grown hgm (by have := HO.out; simp; omega))
            have EBB := Lib.hid (EBB.out.grown hgm (by have := HO.out; simp; omega))
            have EEe := Lib.hid (EEe.out.grown hgm (by have := HO.out; simp; omega))
            have EDA := Lib.hid (EDA.out.grown hgm (by have := HO.out; simp; omega))
            have ECB := Lib.hid (ECB.out.grown hgm (by have := HO.out; simp; omega))
            have ES := Lib.hid (ES.out.grown hgm (by have := HO.out; simp; omega))
            have EDd := Lib.hid (EDd.out.grown hgm (by have := HO.out; simp; omega))
            have HK := Lib.hid (HK.out.grown hgm (by have := HO.out; simp; omega))
            have HR := Lib.hid (HR.out.grown hgm (by have := HO.out; simp; omega))
            have HE := Lib.hid (ext_grown HE.out hgm (by have := HO.out; omega))
            have Ex3 : Hid (ElB wl122 Tx3 ((((s.x2 - s.z2) * (s.x3 + s.z3)) + ((s.x2 + s.z2) * (s.x3 - s.z3))) * (((s.x2 - s.z2) * (s.x3 + s.z3)) + ((s.x2 + s.z2) * (s.x3 - s.z3))))) := Lib.hid ⟨z, lz, hbm, hr⟩
            clear hbm hgm hr HI HL lz
            obtain ⟨zx1, lx1, bx1, ex1⟩ := Ex1.out
            have Hbx1 := Lib.hid bx1
            have Hex1 := Lib.hid ex1
            have Hlx1 := Lib.hid lx1
            have Hix1 := Lib.hid (el_size lx1)
            clear bx1 ex1 lx1
            obtain ⟨zDd, lDd, bDd, eDd⟩ := EDd.out
            have HbDd := Lib.hid bDd
            have HeDd := Lib.hid eDd
            have HlDd := Lib.hid lDd
            have HiDd := Lib.hid (el_size lDd)
            clear bDd eDd lDd
            obtain ⟨zz3, lz3, bz3, ez3⟩ := Ez3.out
            have Hbz3 := Lib.hid bz3
            have Hez3 := Lib.hid ez3
            have Hlz3 := Lib.hid lz3
            have Hiz3 := Lib.hid (el_size lz3)
            clear bz3 ez3 lz3
            go_wp2_with fail
            try simp only [Act.put, List.getElem_toArray, List.getElem_cons_zero, List.getElem_cons_succ, List.setIfInBounds_toArray, List.set_cons_zero, List.set_cons_succ]
            go_cut [86] from 87 to 90 (fun vq wq => ∃ wx, Ext wl122 wx ∧ wx.grownBy wq (some Tz3) ∧ ElB wq Tz3 (x1f * ((((s.x2 - s.z2) * (s.x3 + s.z3)) - ((s.x2 + s.z2) * (s.x3 - s.z3))) * (((s.x2 - s.z2) * (s.x3 + s.z3)) - ((s.x2 + s.z2) * (s.x3 - s.z3))))))
            case first =>
              have B0 : Ext wl122 wl122.drew := Ext.drew _
              refine wp_region_held_drew (S := fun w' => Far (Tz3) wl122 w') (by kernel_rfl) (fars_ext B0) (fun hHeld => ?_)
              refine wpAnyH_take (i := 0) (v := .agg (ints .i64 zx1).toArray) rfl (by kernel_rfl) (by kernel_rfl) (by kernel_rfl) (fun _ _ _ h => h) (yieldsIf_load_mid (by rfl) _ _ rfl Tx1 0 rfl _ _ (fun w h => fars_range Hbx1.out (by have := HO.out; omega) h) Try.underlying48 rfl Hix1.out) hHeld ?_
              simp only [Act.put, List.getElem_toArray, List.getElem_cons_zero, List.getElem_cons_succ, List.setIfInBounds_toArray, List.set_cons_zero, List.set_cons_succ]
              refine wpAnyH_take (i := 1) (v := .agg (ints .i64 zDd).toArray) rfl (by kernel_rfl) (by kernel_rfl) (by kernel_rfl) (fun _ _ _ h => h) (yieldsIf_load_mid (by rfl) _ _ rfl TDd 0 rfl _ _ (fun w h => fars_range HbDd.out (by have := HO.out; omega) h) Try.underlying48 rfl HiDd.out) hHeld ?_
              simp only [Act.put, List.getElem_toArray, List.getElem_cons_zero, List.getElem_cons_succ, List.setIfInBounds_toArray, List.set_cons_zero, List.set_cons_succ]
              refine wpAnyH_take (i := 2) (v := .agg (ints .i64 zDd).toArray) rfl (by kernel_rfl) (by kernel_rfl) (by kernel_rfl) (fun _ _ _ h => h) (yieldsIf_load_mid (by rfl) _ _ rfl TDd 0 rfl _ _ (fun w h => fars_range HbDd.out (by have := HO.out; omega) h) Try.underlying48 rfl HiDd.out) hHeld ?_
              simp only [Act.put, List.getElem_toArray, List.getElem_cons_zero, List.getElem_cons_succ, List.setIfInBounds_toArray, List.set_cons_zero, List.set_cons_succ]
              refine wpAnyH_ready (rs := [3]) (by kernel_rfl) (by simp) (AllReadyH.cons rfl (fun K hK => ?_) AllReadyH.nil)
              go_simp
              refine (rmul_f _ HeDd.out HeDd.out).mono ?_
              rintro e m1 ⟨v1, rfl, e1, b1⟩
              obtain ⟨z1, hz1, l1⟩ := e1.form
              subst hz1
              have N1 : Ext wl122 m1 := B0.trans b1
              refine hK.out _ _ (fars_ext N1) (fun hHeld => ?_)
              clear hK K
              try simp only [Act.put, List.getElem_toArray, List.getElem_cons_zero, List.getElem_cons_succ, List.setIfInBounds_toArray, List.set_cons_zero, List.set_cons_succ]
              refine wpAnyH_ready (rs := [4]) (by kernel_rfl) (by simp) (AllReadyH.cons rfl (fun K hK => ?_) AllReadyH.nil)
              go_simp
              refine (rmul_f _ Hex1.out e1).mono ?_
              rintro e m2 ⟨v2, rfl, e2, b2⟩
              obtain ⟨z2, hz2, l2⟩ := e2.form
              subst hz2
              have N2 : Ext wl122 m2 := N1.trans b2
              refine hK.out _ _ (fars_ext N2) (fun hHeld => ?_)
              clear hK K
              try simp only [Act.put, List.getElem_toArray, List.getElem_cons_zero, List.getElem_cons_succ, List.setIfInBounds_toArray, List.set_cons_zero, List.set_cons_succ]
              refine wpAnyH_ready (rs := [5]) (by kernel_rfl) (by simp) (AllReadyH.cons rfl (fun K hK => ?_) AllReadyH.nil)
              refine step_wp (by rfl) ?_
              refine wp_store_blk _ _ _ rfl Tz3 (ints .i64 z2) rfl rfl _ _ (ext_blk Hbz3.out N2) (by rw [ints_length, ints_length, l2, Hlz3.out]) (el_size l2) (ints_one _ _) ?_
              intro m3 hb3 hg3
              refine hK.out _ _ (fars_put N2 hg3) (fun hHeld => ?_)
              clear hK K
              try simp only [Act.put, List.getElem_toArray, List.getElem_cons_zero, List.getElem_cons_succ, List.setIfInBounds_toArray, List.set_cons_zero, List.set_cons_succ]
              refine wpAnyH_done (by kernel_rfl) ?_ _
              go_wp2_with fail
              go_meet
              exact ⟨_, N2, hg3, ⟨z2, l2, hb3, e2⟩⟩
            case rest =>
              obtain ⟨wx, hX, hgm, hEl⟩ := hcut
              have Ex1 := Lib.hid (Ex1.out.ext hX)
              have Ex2 := Lib.hid (Ex2.out.ext hX)
              have Ez2 := Lib.hid (Ez2.out.ext hX)
              have Ex3 := Lib.hid (Ex3.out.ext hX)
              have Ez3 := Lib.hid (Ez3.out.ext hX)
              have EA := Lib.hid (EA.out.ext hX)
              have EAA := Lib.hid (EAA.out.ext hX)
              have EBb := Lib.hid (EBb.out.ext hX)
              have EBB := Lib.hid (EBB.out.ext hX)
              have EEe := Lib.hid (EEe.out.ext hX)
              have EDA := Lib.hid (EDA.out.ext hX)
              have ECB := Lib.hid (ECB.out.ext hX)
              have ES := Lib.hid (ES.out.ext hX)
              have EDd := Lib.hid (EDd.out.ext hX)
              have HK := Lib.hid (ext_blk HK.out hX)
              have HR := Lib.hid (ext_blk HR.out hX)
              have HE := Lib.hid (HE.out.trans hX)
              have Ex1 := Lib.hid (Ex1.out.grown hgm (by have := HO.out; simp; omega))
              have Ex2 := Lib.hid (Ex2.out.grown hgm (by have := HO.out; simp; omega))
              have Ez2 := Lib.hid (Ez2.out.grown hgm (by have := HO.out; simp; omega))
              have Ex3 := Lib.hid (Ex3.out.grown hgm (by have := HO.out; simp; omega))
              have EA := Lib.hid (EA.out.grown hgm (by have := HO.out; simp; omega))
              have EAA := Lib.hid (EAA.out.grown hgm (by have := HO.out; simp; omega))
              have EBb := Lib.hid (EBb.out.grown hgm (by have := HO.out; simp; omega))
              have EBB := Lib.hid (EBB.out.grown hgm (by have := HO.out; simp; omega))
              have EEe := Lib.hid (EEe.out.grown hgm (by have := HO.out; simp; omega))
              have EDA := Lib.hid (EDA.out.grown hgm (by have := HO.out; simp; omega))
              have ECB := Lib.hid (ECB.out.grown hgm (by have := HO.out; simp; omega))
              have ES := Lib.hid (ES.out.grown hgm (by have := HO.out; simp; omega))
              have EDd := Lib.hid (EDd.out.grown hgm (by have := HO.out; simp; omega))
              have HK := Lib.hid (HK.out.grown hgm (by have := HO.out; simp; omega))
              have HR := Lib.hid (HR.out.grown hgm (by have := HO.out; simp; omega))
              have HE := Lib.hid (ext_grown HE.out hgm (by have := HO.out; omega))
              have Ez3 := Lib.hid hEl
              clear hEl hX hgm
              generalize wc = wl123 at *
              obtain ⟨zAA, lAA, bAA, eAA⟩ := EAA.out
              have HbAA := Lib.hid bAA
              have HeAA := Lib.hid eAA
              have HlAA := Lib.hid lAA
              have HiAA := Lib.hid (el_size lAA)
              clear bAA eAA lAA
              obtain ⟨zBB, lBB, bBB, eBB⟩ := EBB.out
              have HbBB := Lib.hid bBB
              have HeBB := Lib.hid eBB
              have HlBB := Lib.hid lBB
              have HiBB := Lib.hid (el_size lBB)
              clear bBB eBB lBB
              go_wp2_with (first | (refine wpList_load_blk rfl _ _ rfl TAA rfl _ _ _ _ HbAA.out Try.underlying48 HiAA.out ?_) | (refine wpList_load_blk rfl _ _ rfl TBB rfl _ _ _ _ HbBB.out Try.underlying48 HiBB.out ?_))
              refine (rmul_f wl123 HeAA.out HeBB.out).mono ?_
              rintro e wl124 ⟨r, rfl, hr, hb⟩
              obtain ⟨z, hz, lz⟩ := hr.form
              subst hz
              have Ex1 := Lib.hid (Ex1.out.ext hb)
              have Ex2 := Lib.hid (Ex2.out.ext hb)
              have Ez2 := Lib.hid (Ez2.out.ext hb)
              have Ex3 := Lib.hid (Ex3.out.ext hb)
              have Ez3 := Lib.hid (Ez3.out.ext hb)
              have EA := Lib.hid (EA.out.ext hb)
              have EAA := Lib.hid (EAA.out.ext hb)
              have EBb := Lib.hid (EBb.out.ext hb)
              have EBB := Lib.hid (EBB.out.ext hb)
              have EEe := Lib.hid (EEe.out.ext hb)
              have EDA := Lib.hid (EDA.out.ext hb)
              have ECB := Lib.hid (ECB.out.ext hb)
              have ES := Lib.hid (ES.out.ext hb)
              have EDd := Lib.hid (EDd.out.ext hb)
              have HK := Lib.hid (ext_blk HK.out hb)
              have HR := Lib.hid (ext_blk HR.out hb)
              have HE := Lib.hid (HE.out.trans hb)
              clear hb
              obtain ⟨zx2, lx2, bx2, ex2⟩ := Ex2.out
              have Hbx2 := Lib.hid bx2
              have Hex2 := Lib.hid ex2
              have Hlx2 := Lib.hid lx2
              have Hix2 := Lib.hid (el_size lx2)
              clear bx2 ex2 lx2
              have HI := Lib.hid (el_size lz)
              have HL : Hid ((ints .i64 z).length = (ints .i64 zx2).length) := Lib.hid (by rw [ints_length, ints_length, lz, Hlx2.out])
              go_upto_region 27 with (refine wpList_store_blk rfl _ _ _ rfl Tx2 (ints .i64 z) rfl rfl _ _ Hbx2.out HL.out HI.out (ints_one _ _) ?_; intro wl125 hbm hgm)
              have Ex1 := Lib.hid (Ex1.out.grown hgm (by have := HO.out; simp; omega))
              have Ez2 := Lib.hid (Ez2.out.grown hgm (by have := HO.out; simp; omega))
              have Ex3 := Lib.hid (Ex3.out.grown hgm (by have := HO.out; simp; omega))
              have Ez3 := Lib.hid (Ez3.out.grown hgm (by have := HO.out; simp; omega))
              have EA := Lib.hid (EA.out.grown hgm (by have := HO.out; simp; omega))
              have EAA := Lib.hid (EAA.out.grown hgm (by have := HO.out; simp; omega))
              have EBb := Lib.hid (EBb.out.grown hgm (by have := HO.out; simp; omega))
              have EBB := Lib.hid (EBB.out.grown hgm (by have := HO.out; simp; omega))
              have EEe := Lib.hid (EEe.out.grown hgm (by have := HO.out; simp; omega))
              have EDA := Lib.hid (EDA.out.grown hgm (by have := HO.out; simp; omega))
              have ECB := Lib.hid (ECB.out.grown hgm (by have := HO.out; simp; omega))
              have ES := Lib.hid (ES.out.grown hgm (by have := HO.out; simp; omega))
              have EDd := Lib.hid (EDd.out.grown hgm (by have := HO.out; simp; omega))
              have HK := Lib.hid (HK.out.grown hgm (by have := HO.out; simp; omega))
              have HR := Lib.hid (HR.out.grown hgm (by have := HO.out; simp; omega))
              have HE := Lib.hid (ext_grown HE.out hgm (by have := HO.out; omega))
              have Ex2 : Hid (ElB wl125 Tx2 (((s.x3 + s.z3) * (s.x3 + s.z3)) * ((s.x3 - s.z3) * (s.x3 - s.z3)))) := Lib.hid ⟨z, lz, hbm, hr⟩
              clear hbm hgm hr HI HL lz
              obtain ⟨zEe, lEe, bEe, eEe⟩ := EEe.out
              have HbEe := Lib.hid bEe
              have HeEe := Lib.hid eEe
              have HlEe := Lib.hid lEe
              have HiEe := Lib.hid (el_size lEe)
              clear bEe eEe lEe
              obtain ⟨zAA, lAA, bAA, eAA⟩ := EAA.out
              have HbAA := Lib.hid bAA
              have HeAA := Lib.hid eAA
              have HlAA := Lib.hid lAA
              have HiAA := Lib.hid (el_size lAA)
              clear bAA eAA lAA
              obtain ⟨zz2, lz2, bz2, ez2⟩ := Ez2.out
              have Hbz2 := Lib.hid bz2
              have Hez2 := Lib.hid ez2
              have Hlz2 := Lib.hid lz2
              have Hiz2 := Lib.hid (el_size lz2)
              clear bz2 ez2 lz2
              go_wp2_with fail
              try simp only [Act.put, List.getElem_toArray, List.getElem_cons_zero, List.getElem_cons_succ, List.setIfInBounds_toArray, List.set_cons_zero, List.set_cons_succ]
              go_cut [94] from 95 to 100 (fun vq wq => ∃ wx, Ext wl125 wx ∧ wx.grownBy wq (some Tz2) ∧ ElB wq Tz2 ((((s.x3 + s.z3) * (s.x3 + s.z3)) - ((s.x3 - s.z3) * (s.x3 - s.z3))) * (((s.x3 + s.z3) * (s.x3 + s.z3)) + fp 121665 * (((s.x3 + s.z3) * (s.x3 + s.z3)) - ((s.x3 - s.z3) * (s.x3 - s.z3))))))
              case first =>
                have B0 : Ext wl125 wl125.drew := Ext.drew _
                refine wp_region_held_drew (S := fun w' => Far (Tz2) wl125 w') (by kernel_rfl) (fars_ext B0) (fun hHeld => ?_)
                refine wpAnyH_take (i := 0) (v := .agg (ints .i64 zEe).toArray) rfl (by kernel_rfl) (by kernel_rfl) (by kernel_rfl) (fun _ _ _ h => h) (yieldsIf_load_mid (by rfl) _ _ rfl TEe 0 rfl _ _ (fun w h => fars_range HbEe.out (by have := HO.out; omega) h) Try.underlying48 rfl HiEe.out) hHeld ?_
                simp only [Act.put, List.getElem_toArray, List.getElem_cons_zero, List.getElem_cons_succ, List.setIfInBounds_toArray, List.set_cons_zero, List.set_cons_succ]
                refine wpAnyH_take (i := 1) (v := .agg (ints .i64 zAA).toArray) rfl (by kernel_rfl) (by kernel_rfl) (by kernel_rfl) (fun _ _ _ h => h) (yieldsIf_load_mid (by rfl) _ _ rfl TAA 0 rfl _ _ (fun w h => fars_range HbAA.out (by have := HO.out; omega) h) Try.underlying48 rfl HiAA.out) hHeld ?_
                simp only [Act.put, List.getElem_toArray, List.getElem_cons_zero, List.getElem_cons_succ, List.setIfInBounds_toArray, List.set_cons_zero, List.set_cons_succ]
                refine wpAnyH_take (i := 3) (v := .agg (ints .i64 zEe).toArray) rfl (by kernel_rfl) (by kernel_rfl) (by kernel_rfl) (fun _ _ _ h => h) (yieldsIf_load_mid (by rfl) _ _ rfl TEe 0 rfl _ _ (fun w h => fars_range HbEe.out (by have := HO.out; omega) h) Try.underlying48 rfl HiEe.out) hHeld ?_
                simp only [Act.put, List.getElem_toArray, List.getElem_cons_zero, List.getElem_cons_succ, List.setIfInBounds_toArray, List.set_cons_zero, List.set_cons_succ]
                refine wpAnyH_ready (rs := [2]) (by kernel_rfl) (by simp) (AllReadyH.cons rfl (fun K hK => ?_) AllReadyH.nil)
                go_simp
                refine (rone_f 121665 _ (by omega) (by omega)).mono ?_
                rintro e m1 ⟨v1, rfl, e1, b1⟩
                obtain ⟨z1, hz1, l1⟩ := e1.form
                subst hz1
                have N1 : Ext wl125 m1 := B0.trans b1
                refine hK.out _ _ (fars_ext N1) (fun hHeld => ?_)
                clear hK K
                try simp only [Act.put, List.getElem_toArray, List.getElem_cons_zero, List.getElem_cons_succ, List.setIfInBounds_toArray, List.set_cons_zero, List.set_cons_succ]
                refine wpAnyH_ready (rs := [4]) (by kernel_rfl) (by simp) (AllReadyH.cons rfl (fun K hK => ?_) AllReadyH.nil)
                go_simp
                refine (rmul_f _ e1 HeEe.out).mono ?_
                rintro e m2 ⟨v2, rfl, e2, b2⟩
                obtain ⟨z2, hz2, l2⟩ := e2.form
                subst hz2
                have N2 : Ext wl125 m2 := N1.trans b2
                refine hK.out _ _ (fars_ext N2) (fun hHeld => ?_)
                clear hK K
                try simp only [Act.put, List.getElem_toArray, List.getElem_cons_zero, List.getElem_cons_succ, List.setIfInBounds_toArray, List.set_cons_zero, List.set_cons_succ]
                refine wpAnyH_ready (rs := [5]) (by kernel_rfl) (by simp) (AllReadyH.cons rfl (fun K hK => ?_) AllReadyH.nil)
                go_simp
                refine (radd_f _ HeAA.out e2).mono ?_
                rintro e m3 ⟨v3, rfl, e3, b3⟩
                obtain ⟨z3, hz3, l3⟩ := e3.form
                subst hz3
                have N3 : Ext wl125 m3 := N2.trans b3
                refine hK.out _ _ (fars_ext N3) (fun hHeld => ?_)
                clear hK K
                try simp only [Act.put, List.getElem_toArray, List.getElem_cons_zero, List.getElem_cons_succ, List.setIfInBounds_toArray, List.set_cons_zero, List.set_cons_succ]
                refine wpAnyH_ready (rs := [6]) (by kernel_rfl) (by simp) (AllReadyH.cons rfl (fun K hK => ?_) AllReadyH.nil)
                go_simp
                refine (rmul_f _ HeEe.out e3).mono ?_
                rintro e m4 ⟨v4, rfl, e4, b4⟩
                obtain ⟨z4, hz4, l4⟩ := e4.form
                subst hz4
                have N4 : Ext wl125 m4 := N3.trans b4
                refine hK.out _ _ (fars_ext N4) (fun hHeld => ?_)
                clear hK K
                try simp only [Act.put, List.getElem_toArray, List.getElem_cons_zero, List.getElem_cons_succ, List.setIfInBounds_toArray, List.set_cons_zero, List.set_cons_succ]
                refine wpAnyH_ready (rs := [7]) (by kernel_rfl) (by simp) (AllReadyH.cons rfl (fun K hK => ?_) AllReadyH.nil)
                refine step_wp (by rfl) ?_
                refine wp_store_blk _ _ _ rfl Tz2 (ints .i64 z4) rfl rfl _ _ (ext_blk Hbz2.out N4) (by rw [ints_length, ints_length, l4, Hlz2.out]) (el_size l4) (ints_one _ _) ?_
                intro m5 hb5 hg5
                refine hK.out _ _ (fars_put N4 hg5) (fun hHeld => ?_)
                clear hK K
                try simp only [Act.put, List.getElem_toArray, List.getElem_cons_zero, List.getElem_cons_succ, List.setIfInBounds_toArray, List.set_cons_zero, List.set_cons_succ]
                refine wpAnyH_done (by kernel_rfl) ?_ _
                go_wp2_with fail
                go_meet
                exact ⟨_, N4, hg5, ⟨z4, l4, hb5, e4⟩⟩
              case rest =>
                obtain ⟨wx, hX, hgm, hEl⟩ := hcut
                have Ex1 := Lib.hid (Ex1.out.ext hX)
                have Ex2 := Lib.hid (Ex2.out.ext hX)
                have Ez2 := Lib.hid (Ez2.out.ext hX)
                have Ex3 := Lib.hid (Ex3.out.ext hX)
                have Ez3 := Lib.hid (Ez3.out.ext hX)
                have EA := Lib.hid (EA.out.ext hX)
                have EAA := Lib.hid (EAA.out.ext hX)
                have EBb := Lib.hid (EBb.out.ext hX)
                have EBB := Lib.hid (EBB.out.ext hX)
                have EEe := Lib.hid (EEe.out.ext hX)
                have EDA := Lib.hid (EDA.out.ext hX)
                have ECB := Lib.hid (ECB.out.ext hX)
                have ES := Lib.hid (ES.out.ext hX)
                have EDd := Lib.hid (EDd.out.ext hX)
                have HK := Lib.hid (ext_blk HK.out hX)
                have HR := Lib.hid (ext_blk HR.out hX)
                have HE := Lib.hid (HE.out.trans hX)
                have Ex1 := Lib.hid (Ex1.out.grown hgm (by have := HO.out; simp; omega))
                have Ex2 := Lib.hid (Ex2.out.grown hgm (by have := HO.out; simp; omega))
                have Ex3 := Lib.hid (Ex3.out.grown hgm (by have := HO.out; simp; omega))
                have Ez3 := Lib.hid (Ez3.out.grown hgm (by have := HO.out; simp; omega))
                have EA := Lib.hid (EA.out.grown hgm (by have := HO.out; simp; omega))
                have EAA := Lib.hid (EAA.out.grown hgm (by have := HO.out; simp; omega))
                have EBb := Lib.hid (EBb.out.grown hgm (by have := HO.out; simp; omega))
                have EBB := Lib.hid (EBB.out.grown hgm (by have := HO.out; simp; omega))
                have EEe := Lib.hid (EEe.out.grown hgm (by have := HO.out; simp; omega))
                have EDA := Lib.hid (EDA.out.grown hgm (by have := HO.out; simp; omega))
                have ECB := Lib.hid (ECB.out.grown hgm (by have := HO.out; simp; omega))
                have ES := Lib.hid (ES.out.grown hgm (by have := HO.out; simp; omega))
                have EDd := Lib.hid (EDd.out.grown hgm (by have := HO.out; simp; omega))
                have HK := Lib.hid (HK.out.grown hgm (by have := HO.out; simp; omega))
                have HR := Lib.hid (HR.out.grown hgm (by have := HO.out; simp; omega))
                have HE := Lib.hid (ext_grown HE.out hgm (by have := HO.out; omega))
                have Ez2 := Lib.hid hEl
                clear hEl hX hgm
                generalize wc = wl126 at *
                obtain ⟨zx2, lx2, bx2, ex2⟩ := Ex2.out
                have Hbx2 := Lib.hid bx2
                have Hex2 := Lib.hid ex2
                have Hlx2 := Lib.hid lx2
                have Hix2 := Lib.hid (el_size lx2)
                clear bx2 ex2 lx2
                obtain ⟨zx3, lx3, bx3, ex3⟩ := Ex3.out
                have Hbx3 := Lib.hid bx3
                have Hex3 := Lib.hid ex3
                have Hlx3 := Lib.hid lx3
                have Hix3 := Lib.hid (el_size lx3)
                clear bx3 ex3 lx3
                have HL1 : Hid ((ints .i64 zx3).length = (ints .i64 zx2).length) := Lib.hid (by rw [ints_length, ints_length, Hlx2.out, Hlx3.out])
                have HL2 : Hid ((ints .i64 zx2).length = (ints .i64 zx3).length) := Lib.hid (by rw [ints_length, ints_length, Hlx2.out, Hlx3.out])
                go_upto_region 30 with (first | (refine wpList_load_blk rfl _ _ rfl Tx2 rfl _ _ _ _ Hbx2.out Try.underlying48 Hix2.out ?_) | (refine wpList_load_blk rfl _ _ rfl Tx3 rfl _ _ _ _ Hbx3.out Try.underlying48 Hix3.out ?_) | (refine wpList_store_blk rfl _ _ _ rfl Tx2 (ints .i64 zx3) rfl rfl _ _ Hbx2.out HL1.out Hix3.out (ints_one _ _) ?_; intro wl127 hbm hgm; have HB1 := Lib.hid (Hbx3.out.grown hgm (by have := HO.out; simp; omega)); have HG1 := Lib.hid hgm; have HN1 := Lib.hid hbm; clear hbm hgm) | (refine wpList_store_blk rfl _ _ _ rfl Tx3 (ints .i64 zx2) rfl rfl _ _ HB1.out HL2.out Hix2.out (ints_one _ _) ?_; intro wl128 hbm hgm))
                have Ex1 := Lib.hid ((Ex1.out.grown HG1.out (by have := HO.out; simp; omega)).grown hgm (by have := HO.out; simp; omega))
                have Ez2 := Lib.hid ((Ez2.out.grown HG1.out (by have := HO.out; simp; omega)).grown hgm (by have := HO.out; simp; omega))
                have Ez3 := Lib.hid ((Ez3.out.grown HG1.out (by have := HO.out; simp; omega)).grown hgm (by have := HO.out; simp; omega))
                have EA := Lib.hid ((EA.out.grown HG1.out (by have := HO.out; simp; omega)).grown hgm (by have := HO.out; simp; omega))
                have EAA := Lib.hid ((EAA.out.grown HG1.out (by have := HO.out; simp; omega)).grown hgm (by have := HO.out; simp; omega))
                have EBb := Lib.hid ((EBb.out.grown HG1.out (by have := HO.out; simp; omega)).grown hgm (by have := HO.out; simp; omega))
                have EBB := Lib.hid ((EBB.out.grown HG1.out (by have := HO.out; simp; omega)).grown hgm (by have := HO.out; simp; omega))
                have EEe := Lib.hid ((EEe.out.grown HG1.out (by have := HO.out; simp; omega)).grown hgm (by have := HO.out; simp; omega))
                have EDA := Lib.hid ((EDA.out.grown HG1.out (by have := HO.out; simp; omega)).grown hgm (by have := HO.out; simp; omega))
                have ECB := Lib.hid ((ECB.out.grown HG1.out (by have := HO.out; simp; omega)).grown hgm (by have := HO.out; simp; omega))
                have ES := Lib.hid ((ES.out.grown HG1.out (by have := HO.out; simp; omega)).grown hgm (by have := HO.out; simp; omega))
                have EDd := Lib.hid ((EDd.out.grown HG1.out (by have := HO.out; simp; omega)).grown hgm (by have := HO.out; simp; omega))
                have HK := Lib.hid ((HK.out.grown HG1.out (by have := HO.out; simp; omega)).grown hgm (by have := HO.out; simp; omega))
                have HR := Lib.hid ((HR.out.grown HG1.out (by have := HO.out; simp; omega)).grown hgm (by have := HO.out; simp; omega))
                have HE := Lib.hid (ext_grown (ext_grown HE.out HG1.out (by have := HO.out; omega)) hgm (by have := HO.out; omega))
                have Ex2 : Hid (ElB wl128 Tx2 ((((s.x2 - s.z2) * (s.x3 + s.z3)) + ((s.x2 + s.z2) * (s.x3 - s.z3))) * (((s.x2 - s.z2) * (s.x3 + s.z3)) + ((s.x2 + s.z2) * (s.x3 - s.z3))))) := Lib.hid ⟨zx3, Hlx3.out, HN1.out.grown hgm (by have := HO.out; simp; omega), Hex3.out⟩
                have Ex3 : Hid (ElB wl128 Tx3 (((s.x3 + s.z3) * (s.x3 + s.z3)) * ((s.x3 - s.z3) * (s.x3 - s.z3)))) := Lib.hid ⟨zx2, Hlx2.out, hbm, Hex2.out⟩
                clear hbm hgm HG1 HN1 HB1 HL1 HL2
                obtain ⟨zz2, lz2, bz2, ez2⟩ := Ez2.out
                have Hbz2 := Lib.hid bz2
                have Hez2 := Lib.hid ez2
                have Hlz2 := Lib.hid lz2
                have Hiz2 := Lib.hid (el_size lz2)
                clear bz2 ez2 lz2
                obtain ⟨zz3, lz3, bz3, ez3⟩ := Ez3.out
                have Hbz3 := Lib.hid bz3
                have Hez3 := Lib.hid ez3
                have Hlz3 := Lib.hid lz3
                have Hiz3 := Lib.hid (el_size lz3)
                clear bz3 ez3 lz3
                have HL1 : Hid ((ints .i64 zz3).length = (ints .i64 zz2).length) := Lib.hid (by rw [ints_length, ints_length, Hlz2.out, Hlz3.out])
                have HL2 : Hid ((ints .i64 zz2).length = (ints .i64 zz3).length) := Lib.hid (by rw [ints_length, ints_length, Hlz2.out, Hlz3.out])
                go_wp2_with (first | (refine wpList_load_blk rfl _ _ rfl Tz2 rfl _ _ _ _ Hbz2.out Try.underlying48 Hiz2.out ?_) | (refine wpList_load_blk rfl _ _ rfl Tz3 rfl _ _ _ _ Hbz3.out Try.underlying48 Hiz3.out ?_) | (refine wpList_store_blk rfl _ _ _ rfl Tz2 (ints .i64 zz3) rfl rfl _ _ Hbz2.out HL1.out Hiz3.out (ints_one _ _) ?_; intro wl129 hbm hgm; have HB1 := Lib.hid (Hbz3.out.grown hgm (by have := HO.out; simp; omega)); have HG1 := Lib.hid hgm; have HN1 := Lib.hid hbm; clear hbm hgm) | (refine wpList_store_blk rfl _ _ _ rfl Tz3 (ints .i64 zz2) rfl rfl _ _ HB1.out HL2.out Hiz2.out (ints_one _ _) ?_; intro wl130 hbm hgm))
                have Ex1 := Lib.hid ((Ex1.out.grown HG1.out (by have := HO.out; simp; omega)).grown hgm (by have := HO.out; simp; omega))
                have Ex2 := Lib.hid ((Ex2.out.grown HG1.out (by have := HO.out; simp; omega)).grown hgm (by have := HO.out; simp; omega))
                have Ex3 := Lib.hid ((Ex3.out.grown HG1.out (by have := HO.out; simp; omega)).grown hgm (by have := HO.out; simp; omega))
                have EA := Lib.hid ((EA.out.grown HG1.out (by have := HO.out; simp; omega)).grown hgm (by have := HO.out; simp; omega))
                have EAA := Lib.hid ((EAA.out.grown HG1.out (by have := HO.out; simp; omega)).grown hgm (by have := HO.out; simp; omega))
                have EBb := Lib.hid ((EBb.out.grown HG1.out (by have := HO.out; simp; omega)).grown hgm (by have := HO.out; simp; omega))
                have EBB := Lib.hid ((EBB.out.grown HG1.out (by have := HO.out; simp; omega)).grown hgm (by have := HO.out; simp; omega))
                have EEe := Lib.hid ((EEe.out.grown HG1.out (by have := HO.out; simp; omega)).grown hgm (by have := HO.out; simp; omega))
                have EDA := Lib.hid ((EDA.out.grown HG1.out (by have := HO.out; simp; omega)).grown hgm (by have := HO.out; simp; omega))
                have ECB := Lib.hid ((ECB.out.grown HG1.out (by have := HO.out; simp; omega)).grown hgm (by have := HO.out; simp; omega))
                have ES := Lib.hid ((ES.out.grown HG1.out (by have := HO.out; simp; omega)).grown hgm (by have := HO.out; simp; omega))
                have EDd := Lib.hid ((EDd.out.grown HG1.out (by have := HO.out; simp; omega)).grown hgm (by have := HO.out; simp; omega))
                have HK := Lib.hid ((HK.out.grown HG1.out (by have := HO.out; simp; omega)).grown hgm (by have := HO.out; simp; omega))
                have HR := Lib.hid ((HR.out.grown HG1.out (by have := HO.out; simp; omega)).grown hgm (by have := HO.out; simp; omega))
                have HE := Lib.hid (ext_grown (ext_grown HE.out HG1.out (by have := HO.out; omega)) hgm (by have := HO.out; omega))
                have Ez2 : Hid (ElB wl130 Tz2 (x1f * ((((s.x2 - s.z2) * (s.x3 + s.z3)) - ((s.x2 + s.z2) * (s.x3 - s.z3))) * (((s.x2 - s.z2) * (s.x3 + s.z3)) - ((s.x2 + s.z2) * (s.x3 - s.z3)))))) := Lib.hid ⟨zz3, Hlz3.out, HN1.out.grown hgm (by have := HO.out; simp; omega), Hez3.out⟩
                have Ez3 : Hid (ElB wl130 Tz3 ((((s.x3 + s.z3) * (s.x3 + s.z3)) - ((s.x3 - s.z3) * (s.x3 - s.z3))) * (((s.x3 + s.z3) * (s.x3 + s.z3)) + fp 121665 * (((s.x3 + s.z3) * (s.x3 + s.z3)) - ((s.x3 - s.z3) * (s.x3 - s.z3)))))) := Lib.hid ⟨zz2, Hlz2.out, hbm, Hez2.out⟩
                clear hbm hgm HG1 HN1 HB1 HL1 HL2
                go_roundw
                case rel => exact ⟨k + 1, by omega, by go_num, Ex1.out, (by rw [HG.out]; exact Ex2.out), (by rw [HG.out]; exact Ez2.out), (by rw [HG.out]; exact Ex3.out), (by rw [HG.out]; have h := Ez3.out; rw [fp_lit] at h; exact h), HK.out, HR.out, HE.out⟩
                case measure => simp [intOf]; omega
      · have hb0 : leN cl / 2 ^ (254 - k) % 2 = 0 := by omega
        have hq : bits .and .u8 ((bt : Int) / 2 ^ ((254 - k) % 8)) 1 = 0 := by
          rw [hcast, andU1, ← hbit, hb0]
          rfl
        have HG : Hid (lrun x1f (leN cl) (k + 1) = s.step x1f) := Lib.hid (by
          rw [lrun, htb, ← hs]
          simp only [hb1, decide_true, decide_false]
          rfl)
        clear hbit hcast htb hbt hb1 hb0
        go_upto_region 15 with (fail)
        clear hq e1 s1 s2 s3 s4 s5 s6 hs
        obtain ⟨zx2, lx2, bx2, ex2⟩ := Ex2.out
        have Hbx2 := Lib.hid bx2
        have Hex2 := Lib.hid ex2
        have Hlx2 := Lib.hid lx2
        have Hix2 := Lib.hid (el_size lx2)
        clear bx2 ex2 lx2
        obtain ⟨zz2, lz2, bz2, ez2⟩ := Ez2.out
        have Hbz2 := Lib.hid bz2
        have Hez2 := Lib.hid ez2
        have Hlz2 := Lib.hid lz2
        have Hiz2 := Lib.hid (el_size lz2)
        clear bz2 ez2 lz2
        go_wp2_with (first | (refine wpList_load_blk rfl _ _ rfl Tx2 rfl _ _ _ _ Hbx2.out Try.underlying48 Hix2.out ?_) | (refine wpList_load_blk rfl _ _ rfl Tz2 rfl _ _ _ _ Hbz2.out Try.underlying48 Hiz2.out ?_))
        refine (radd_f wr Hex2.out Hez2.out).mono ?_
        rintro e wl1 ⟨r, rfl, hr, hb⟩
        obtain ⟨z, hz, lz⟩ := hr.form
        subst hz
        have Ex1 := Lib.hid (Ex1.out.ext hb)
        have Ex2 := Lib.hid (Ex2.out.ext hb)
        have Ez2 := Lib.hid (Ez2.out.ext hb)
        have Ex3 := Lib.hid (Ex3.out.ext hb)
        have Ez3 := Lib.hid (Ez3.out.ext hb)
        have HK := Lib.hid (ext_blk HK.out hb)
        have HR := Lib.hid (ext_blk HR.out hb)
        have HE := Lib.hid (HE.out.trans hb)
        clear hb
        have HZ := Lib.hid (Blk.made wl1 (ints .i64 (List.replicate 16 0)) 48)
        have HEA := Lib.hid (Ext.alloc wl1 (.cells (ints .i64 (List.replicate 16 0)).toArray 48))
        have HI := Lib.hid (el_size lz)
        have HL : Hid ((ints .i64 z).length = (ints .i64 (List.replicate 16 0)).length) := Lib.hid (by rw [ints_length, lz]; rfl)
        go_upto_region 16 with (refine wpList_store_blk rfl _ _ _ rfl wl1.heap.size (ints .i64 z) rfl rfl _ _ HZ.out HL.out HI.out (ints_one _ _) ?_; intro wl2 hbm hgm)
        have HX := Lib.hid (ext_grown HEA.out hgm (Nat.le_refl _))
        obtain ⟨TA, hT⟩ : ∃ T, T = wl1.heap.size := ⟨_, rfl⟩
        have HTA : Hid (Tz3 < TA) := Lib.hid (by rw [hT]; exact Ez3.out.lt)
        rw [← hT] at hbm ⊢
        have Ex1 := Lib.hid (Ex1.out.ext HX.out)
        have Ex2 := Lib.hid (Ex2.out.ext HX.out)
        have Ez2 := Lib.hid (Ez2.out.ext HX.out)
        have Ex3 := Lib.hid (Ex3.out.ext HX.out)
        have Ez3 := Lib.hid (Ez3.out.ext HX.out)
        have HK := Lib.hid (ext_blk HK.out HX.out)
        have HR := Lib.hid (ext_blk HR.out HX.out)
        have HE := Lib.hid (HE.out.trans HX.out)
        have EA : Hid (ElB wl2 TA (s.x2 + s.z2)) := Lib.hid ⟨z, lz, hbm, hr⟩
        have HO := Lib.hid (And.intro HO.out HTA.out)
        clear hbm hgm HZ HEA HX hT hr HI HL lz
        obtain ⟨zA, lA, bA, eA⟩ := EA.out
        have HbA := Lib.hid bA
        have HeA := Lib.hid eA
        have HlA := Lib.hid lA
        have HiA := Lib.hid (el_size lA)
        clear bA eA lA
        go_wp2_with (first | (refine wpList_load_blk rfl _ _ rfl TA rfl _ _ _ _ HbA.out Try.underlying48 HiA.out ?_))
        refine (rmul_f wl2 HeA.out HeA.out).mono ?_
        rintro e wl3 ⟨r, rfl, hr, hb⟩
        obtain ⟨z, hz, lz⟩ := hr.form
        subst hz
        have Ex1 := Lib.hid (Ex1.out.ext hb)
        have Ex2 := Lib.hid (Ex2.out.ext hb)
        have Ez2 := Lib.hid (Ez2.out.ext hb)
        have Ex3 := Lib.hid (Ex3.out.ext hb)
        have Ez3 := Lib.hid (Ez3.out.ext hb)
        have EA := Lib.hid (EA.out.ext hb)
        have HK := Lib.hid (ext_blk HK.out hb)
        have HR := Lib.hid (ext_blk HR.out hb)
        have HE := Lib.hid (HE.out.trans hb)
        clear hb
        have HZ := Lib.hid (Blk.made wl3 (ints .i64 (List.replicate 16 0)) 48)
        have HEA := Lib.hid (Ext.alloc wl3 (.cells (ints .i64 (List.replicate 16 0)).toArray 48))
        have HI := Lib.hid (el_size lz)
        have HL : Hid ((ints .i64 z).length = (ints .i64 (List.replicate 16 0)).length) := Lib.hid (by rw [ints_length, lz]; rfl)
        go_upto_region 17 with (refine wpList_store_blk rfl _ _ _ rfl wl3.heap.size (ints .i64 z) rfl rfl _ _ HZ.out HL.out HI.out (ints_one _ _) ?_; intro wl4 hbm hgm)
        have HX := Lib.hid (ext_grown HEA.out hgm (Nat.le_refl _))
        obtain ⟨TAA, hT⟩ : ∃ T, T = wl3.heap.size := ⟨_, rfl⟩
        have HTAA : Hid (TA < TAA) := Lib.hid (by rw [hT]; exact EA.out.lt)
        rw [← hT] at hbm ⊢
        have Ex1 := Lib.hid (Ex1.out.ext HX.out)
        have Ex2 := Lib.hid (Ex2.out.ext HX.out)
        have Ez2 := Lib.hid (Ez2.out.ext HX.out)
        have Ex3 := Lib.hid (Ex3.out.ext HX.out)
        have Ez3 := Lib.hid (Ez3.out.ext HX.out)
        have EA := Lib.hid (EA.out.ext HX.out)
        have HK := Lib.hid (ext_blk HK.out HX.out)
        have HR := Lib.hid (ext_blk HR.out HX.out)
        have HE := Lib.hid (HE.out.trans HX.out)
        have EAA : Hid (ElB wl4 TAA ((s.x2 + s.z2) * (s.x2 + s.z2))) := Lib.hid ⟨z, lz, hbm, hr⟩
        have HO := Lib.hid (And.intro HO.out HTAA.out)
        clear hbm hgm HZ HEA HX hT hr HI HL lz
        obtain ⟨zx2, lx2, bx2, ex2⟩ := Ex2.out
        have Hbx2 := Lib.hid bx2
        have Hex2 := Lib.hid ex2
        have Hlx2 := Lib.hid lx2
        have Hix2 := Lib.hid (el_size lx2)
        clear bx2 ex2 lx2
        obtain ⟨zz2, lz2, bz2, ez2⟩ := Ez2.out
        have Hbz2 := Lib.hid bz2
        have Hez2 := Lib.hid ez2
        have Hlz2 := Lib.hid lz2
        have Hiz2 := Lib.hid (el_size lz2)
        clear bz2 ez2 lz2
        go_wp2_with (first | (refine wpList_load_blk rfl _ _ rfl Tx2 rfl _ _ _ _ Hbx2.out Try.underlying48 Hix2.out ?_) | (refine wpList_load_blk rfl _ _ rfl Tz2 rfl _ _ _ _ Hbz2.out Try.underlying48 Hiz2.out ?_))
        refine (rsub_f wl4 Hex2.out Hez2.out).mono ?_
        rintro e wl5 ⟨r, rfl, hr, hb⟩
        obtain ⟨z, hz, lz⟩ := hr.form
        subst hz
        have Ex1 := Lib.hid (Ex1.out.ext hb)
        have Ex2 := Lib.hid (Ex2.out.ext hb)
        have Ez2 := Lib.hid (Ez2.out.ext hb)
        have Ex3 := Lib.hid (Ex3.out.ext hb)
        have Ez3 := Lib.hid (Ez3.out.ext hb)
        have EA := Lib.hid (EA.out.ext hb)
        have EAA := Lib.hid (EAA.out.ext hb)
        have HK := Lib.hid (ext_blk HK.out hb)
        have HR := Lib.hid (ext_blk HR.out hb)
        have HE := Lib.hid (HE.out.trans hb)
        clear hb
        have HZ := Lib.hid (Blk.made wl5 (ints .i64 (List.replicate 16 0)) 48)
        have HEA := Lib.hid (Ext.alloc wl5 (.cells (ints .i64 (List.replicate 16 0)).toArray 48))
        have HI := Lib.hid (el_size lz)
        have HL : Hid ((ints .i64 z).length = (ints .i64 (List.replicate 16 0)).length) := Lib.hid (by rw [ints_length, lz]; rfl)
        go_upto_region 18 with (refine wpList_store_blk rfl _ _ _ rfl wl5.heap.size (ints .i64 z) rfl rfl _ _ HZ.out HL.out HI.out (ints_one _ _) ?_; intro wl6 hbm hgm)
        have HX := Lib.hid (ext_grown HEA.out hgm (Nat.le_refl _))
        obtain ⟨TBb, hT⟩ : ∃ T, T = wl5.heap.size := ⟨_, rfl⟩
        have HTBb : Hid (TAA < TBb) := Lib.hid (by rw [hT]; exact EAA.out.lt)
        rw [← hT] at hbm ⊢
        have Ex1 := Lib.hid (Ex1.out.ext HX.out)
        have Ex2 := Lib.hid (Ex2.out.ext HX.out)
        have Ez2 := Lib.hid (Ez2.out.ext HX.out)
        have Ex3 := Lib.hid (Ex3.out.ext HX.out)
        have Ez3 := Lib.hid (Ez3.out.ext HX.out)
        have EA := Lib.hid (EA.out.ext HX.out)
        have EAA := Lib.hid (EAA.out.ext HX.out)
        have HK := Lib.hid (ext_blk HK.out HX.out)
        have HR := Lib.hid (ext_blk HR.out HX.out)
        have HE := Lib.hid (HE.out.trans HX.out)
        have EBb : Hid (ElB wl6 TBb (s.x2 - s.z2)) := Lib.hid ⟨z, lz, hbm, hr⟩
        have HO := Lib.hid (And.intro HO.out HTBb.out)
        clear hbm hgm HZ HEA HX hT hr HI HL lz
        obtain ⟨zBb, lBb, bBb, eBb⟩ := EBb.out
        have HbBb := Lib.hid bBb
        have HeBb := Lib.hid eBb
        have HlBb := Lib.hid lBb
        have HiBb := Lib.hid (el_size lBb)
        clear bBb eBb lBb
        go_wp2_with (first | (refine wpList_load_blk rfl _ _ rfl TBb rfl _ _ _ _ HbBb.out Try.underlying48 HiBb.out ?_))
        refine (rmul_f wl6 HeBb.out HeBb.out).mono ?_
        rintro e wl7 ⟨r, rfl, hr, hb⟩
        obtain ⟨z, hz, lz⟩ := hr.form
        subst hz
        have Ex1 := Lib.hid (Ex1.out.ext hb)
        have Ex2 := Lib.hid (Ex2.out.ext hb)
        have Ez2 := Lib.hid (Ez2.out.ext hb)
        have Ex3 := Lib.hid (Ex3.out.ext hb)
        have Ez3 := Lib.hid (Ez3.out.ext hb)
        have EA := Lib.hid (EA.out.ext hb)
        have EAA := Lib.hid (EAA.out.ext hb)
        have EBb := Lib.hid (EBb.out.ext hb)
        have HK := Lib.hid (ext_blk HK.out hb)
        have HR := Lib.hid (ext_blk HR.out hb)
        have HE := Lib.hid (HE.out.trans hb)
        clear hb
        have HZ := Lib.hid (Blk.made wl7 (ints .i64 (List.replicate 16 0)) 48)
        have HEA := Lib.hid (Ext.alloc wl7 (.cells (ints .i64 (List.replicate 16 0)).toArray 48))
        have HI := Lib.hid (el_size lz)
        have HL : Hid ((ints .i64 z).length = (ints .i64 (List.replicate 16 0)).length) := Lib.hid (by rw [ints_length, lz]; rfl)
        go_upto_region 19 with (refine wpList_store_blk rfl _ _ _ rfl wl7.heap.size (ints .i64 z) rfl rfl _ _ HZ.out HL.out HI.out (ints_one _ _) ?_; intro wl8 hbm hgm)
        have HX := Lib.hid (ext_grown HEA.out hgm (Nat.le_refl _))
        obtain ⟨TBB, hT⟩ : ∃ T, T = wl7.heap.size := ⟨_, rfl⟩
        have HTBB : Hid (TBb < TBB) := Lib.hid (by rw [hT]; exact EBb.out.lt)
        rw [← hT] at hbm ⊢
        have Ex1 := Lib.hid (Ex1.out.ext HX.out)
        have Ex2 := Lib.hid (Ex2.out.ext HX.out)
        have Ez2 := Lib.hid (Ez2.out.ext HX.out)
        have Ex3 := Lib.hid (Ex3.out.ext HX.out)
        have Ez3 := Lib.hid (Ez3.out.ext HX.out)
        have EA := Lib.hid (EA.out.ext HX.out)
        have EAA := Lib.hid (EAA.out.ext HX.out)
        have EBb := Lib.hid (EBb.out.ext HX.out)
        have HK := Lib.hid (ext_blk HK.out HX.out)
        have HR := Lib.hid (ext_blk HR.out HX.out)
        have HE := Lib.hid (HE.out.trans HX.out)
        have EBB : Hid (ElB wl8 TBB ((s.x2 - s.z2) * (s.x2 - s.z2))) := Lib.hid ⟨z, lz, hbm, hr⟩
        have HO := Lib.hid (And.intro HO.out HTBB.out)
        clear hbm hgm HZ HEA HX hT hr HI HL lz
        obtain ⟨zAA, lAA, bAA, eAA⟩ := EAA.out
        have HbAA := Lib.hid bAA
        have HeAA := Lib.hid eAA
        have HlAA := Lib.hid lAA
        have HiAA := Lib.hid (el_size lAA)
        clear bAA eAA lAA
        obtain ⟨zBB, lBB, bBB, eBB⟩ := EBB.out
        have HbBB := Lib.hid bBB
        have HeBB := Lib.hid eBB
        have HlBB := Lib.hid lBB
        have HiBB := Lib.hid (el_size lBB)
        clear bBB eBB lBB
        go_wp2_with (first | (refine wpList_load_blk rfl _ _ rfl TAA rfl _ _ _ _ HbAA.out Try.underlying48 HiAA.out ?_) | (refine wpList_load_blk rfl _ _ rfl TBB rfl _ _ _ _ HbBB.out Try.underlying48 HiBB.out ?_))
        refine (rsub_f wl8 HeAA.out HeBB.out).mono ?_
        rintro e wl9 ⟨r, rfl, hr, hb⟩
        obtain ⟨z, hz, lz⟩ := hr.form
        subst hz
        have Ex1 := Lib.hid (Ex1.out.ext hb)
        have Ex2 := Lib.hid (Ex2.out.ext hb)
        have Ez2 := Lib.hid (Ez2.out.ext hb)
        have Ex3 := Lib.hid (Ex3.out.ext hb)
        have Ez3 := Lib.hid (Ez3.out.ext hb)
        have EA := Lib.hid (EA.out.ext hb)
        have EAA := Lib.hid (EAA.out.ext hb)
        have EBb := Lib.hid (EBb.out.ext hb)
        have EBB := Lib.hid (EBB.out.ext hb)
        have HK := Lib.hid (ext_blk HK.out hb)
        have HR := Lib.hid (ext_blk HR.out hb)
        have HE := Lib.hid (HE.out.trans hb)
        clear hb
        have HZ := Lib.hid (Blk.made wl9 (ints .i64 (List.replicate 16 0)) 48)
        have HEA := Lib.hid (Ext.alloc wl9 (.cells (ints .i64 (List.replicate 16 0)).toArray 48))
        have HI := Lib.hid (el_size lz)
        have HL : Hid ((ints .i64 z).length = (ints .i64 (List.replicate 16 0)).length) := Lib.hid (by rw [ints_length, lz]; rfl)
        go_upto_region 20 with (refine wpList_store_blk rfl _ _ _ rfl wl9.heap.size (ints .i64 z) rfl rfl _ _ HZ.out HL.out HI.out (ints_one _ _) ?_; intro wl10 hbm hgm)
        have HX := Lib.hid (ext_grown HEA.out hgm (Nat.le_refl _))
        obtain ⟨TEe, hT⟩ : ∃ T, T = wl9.heap.size := ⟨_, rfl⟩
        have HTEe : Hid (TBB < TEe) := Lib.hid (by rw [hT]; exact EBB.out.lt)
        rw [← hT] at hbm ⊢
        have Ex1 := Lib.hid (Ex1.out.ext HX.out)
        have Ex2 := Lib.hid (Ex2.out.ext HX.out)
        have Ez2 := Lib.hid (Ez2.out.ext HX.out)
        have Ex3 := Lib.hid (Ex3.out.ext HX.out)
        have Ez3 := Lib.hid (Ez3.out.ext HX.out)
        have EA := Lib.hid (EA.out.ext HX.out)
        have EAA := Lib.hid (EAA.out.ext HX.out)
        have EBb := Lib.hid (EBb.out.ext HX.out)
        have EBB := Lib.hid (EBB.out.ext HX.out)
        have HK := Lib.hid (ext_blk HK.out HX.out)
        have HR := Lib.hid (ext_blk HR.out HX.out)
        have HE := Lib.hid (HE.out.trans HX.out)
        have EEe : Hid (ElB wl10 TEe (((s.x2 + s.z2) * (s.x2 + s.z2)) - ((s.x2 - s.z2) * (s.x2 - s.z2)))) := Lib.hid ⟨z, lz, hbm, hr⟩
        have HO := Lib.hid (And.intro HO.out HTEe.out)
        clear hbm hgm HZ HEA HX hT hr HI HL lz
        obtain ⟨zx3, lx3, bx3, ex3⟩ := Ex3.out
        have Hbx3 := Lib.hid bx3
        have Hex3 := Lib.hid ex3
        have Hlx3 := Lib.hid lx3
        have Hix3 := Lib.hid (el_size lx3)
        clear bx3 ex3 lx3
        obtain ⟨zz3, lz3, bz3, ez3⟩ := Ez3.out
        have Hbz3 := Lib.hid bz3
        have Hez3 := Lib.hid ez3
        have Hlz3 := Lib.hid lz3
        have Hiz3 := Lib.hid (el_size lz3)
        clear bz3 ez3 lz3
        obtain ⟨zA, lA, bA, eA⟩ := EA.out
        have HbA := Lib.hid bA
        have HeA := Lib.hid eA
        have HlA := Lib.hid lA
        have HiA := Lib.hid (el_size lA)
        clear bA eA lA
        go_wp2_with fail
        try simp only [Act.put, List.getElem_toArray, List.getElem_cons_zero, List.getElem_cons_succ, List.setIfInBounds_toArray, List.set_cons_zero, List.set_cons_succ]
        go_cut [17] from 67 to 71 (fun vq wq => ∃ g, vq = .pointer (some ⟨g, 0, none⟩) ∧ wl10.heap.size ≤ g ∧ ElB wq g ((s.x3 - s.z3) * (s.x2 + s.z2)) ∧ Ext wl10 wq)
        case first =>
          have B0 : Ext wl10 wl10.drew := Ext.drew _
          refine wp_region_held_drew (S := fun w' => Ext wl10 w') (by kernel_rfl) B0 (fun hHeld => ?_)
          refine wpAnyH_take (i := 0) (v := .agg (ints .i64 zx3).toArray) rfl (by kernel_rfl) (by kernel_rfl) (by kernel_rfl) (fun _ _ _ h => h) (yieldsIf_load_mid (by rfl) _ _ rfl Tx3 0 rfl _ _ (fun w h => bl_range Hbx3.out h) Try.underlying48 rfl Hix3.out) hHeld ?_
          simp only [Act.put, List.getElem_toArray, List.getElem_cons_zero, List.getElem_cons_succ, List.setIfInBounds_toArray, List.set_cons_zero, List.set_cons_succ]
          refine wpAnyH_take (i := 1) (v := .agg (ints .i64 zz3).toArray) rfl (by kernel_rfl) (by kernel_rfl) (by kernel_rfl) (fun _ _ _ h => h) (yieldsIf_load_mid (by rfl) _ _ rfl Tz3 0 rfl _ _ (fun w h => bl_range Hbz3.out h) Try.underlying48 rfl Hiz3.out) hHeld ?_
          simp only [Act.put, List.getElem_toArray, List.getElem_cons_zero, List.getElem_cons_succ, List.setIfInBounds_toArray, List.set_cons_zero, List.set_cons_succ]
          refine wpAnyH_take (i := 3) (v := .agg (ints .i64 zA).toArray) rfl (by kernel_rfl) (by kernel_rfl) (by kernel_rfl) (fun _ _ _ h => h) (yieldsIf_load_mid (by rfl) _ _ rfl TA 0 rfl _ _ (fun w h => bl_range HbA.out h) Try.underlying48 rfl HiA.out) hHeld ?_
          simp only [Act.put, List.getElem_toArray, List.getElem_cons_zero, List.getElem_cons_succ, List.setIfInBounds_toArray, List.set_cons_zero, List.set_cons_succ]
          refine wpAnyH_ready (rs := [2, 5]) (by kernel_rfl) (by simp) (AllReadyH.cons rfl (fun K hK => ?_) (AllReadyH.cons rfl (fun K hK => ?_) AllReadyH.nil))
          · go_simp
            refine (rsub_f _ Hex3.out Hez3.out).mono ?_
            rintro e m1 ⟨v1, rfl, e1, b1⟩
            obtain ⟨z1, hz1, l1⟩ := e1.form
            subst hz1
            have N1 : Ext wl10 m1 := B0.trans b1
            refine hK.out _ _ N1 (fun hHeld => ?_)
            clear hK K
            try simp only [Act.put, List.getElem_toArray, List.getElem_cons_zero, List.getElem_cons_succ, List.setIfInBounds_toArray, List.set_cons_zero, List.set_cons_succ]
            refine wpAnyH_ready (rs := [4, 5]) (by kernel_rfl) (by simp) (AllReadyH.cons rfl (fun K hK => ?_) (AllReadyH.cons rfl (fun K hK => ?_) AllReadyH.nil))
            · go_simp
              refine (rmul_f _ e1 HeA.out).mono ?_
              rintro e m2 ⟨v2, rfl, e2, b2⟩
              obtain ⟨z2, hz2, l2⟩ := e2.form
              subst hz2
              have N2 : Ext wl10 m2 := N1.trans b2
              refine hK.out _ _ N2 (fun hHeld => ?_)
              clear hK K
              try simp only [Act.put, List.getElem_toArray, List.getElem_cons_zero, List.getElem_cons_succ, List.setIfInBounds_toArray, List.set_cons_zero, List.set_cons_succ]
              refine wpAnyH_ready (rs := [5]) (by kernel_rfl) (by simp) (AllReadyH.cons rfl (fun K hK => ?_) AllReadyH.nil)
              refine step_wp (by rfl) ?_
              refine wp_alloc_d (some 17) _ (ints .i64 (List.replicate 16 0)) rfl rfl Try.zeroValue48 ?_
              obtain ⟨m3, hm3⟩ : ∃ wNew, wNew = World.alloc m2 (.cells ((ints .i64 (List.replicate 16 0))).toArray 48) := ⟨_, rfl⟩
              rw [← hm3]
              have b3 : Ext m2 m3 := by rw [hm3]; exact Ext.alloc _ _
              obtain ⟨g3, hg3⟩ : ∃ gNew, gNew = (m2).heap.size := ⟨_, rfl⟩
              rw [← hg3]
              have z3 : Blk m3 g3 (ints .i64 (List.replicate 16 0)) 48 := by rw [hm3, hg3]; exact Blk.made _ _ _
              have l3 : (wl10).heap.size ≤ g3 := by rw [hg3]; exact N2.size
              clear hm3 hg3
              have N3 : Ext wl10 m3 := N2.trans b3
              refine hK.out _ _ N3 (fun hHeld => ?_)
              clear hK K
              try simp only [Act.put, List.getElem_toArray, List.getElem_cons_zero, List.getElem_cons_succ, List.setIfInBounds_toArray, List.set_cons_zero, List.set_cons_succ]
              refine wpAnyH_ready (rs := [6]) (by kernel_rfl) (by simp) (AllReadyH.cons rfl (fun K hK => ?_) AllReadyH.nil)
              refine step_wp (by rfl) ?_
              refine wp_store_blk _ _ _ rfl g3 (ints .i64 z2) rfl rfl _ _ z3 (by rw [ints_length, l2]; rfl) (el_size l2) (ints_one _ _) ?_
              intro m4 hb4 hg4
              have N4 : Ext wl10 m4 := ext_grown N3 hg4 l3
              refine hK.out _ _ N4 (fun hHeld => ?_)
              clear hK K
              try simp only [Act.put, List.getElem_toArray, List.getElem_cons_zero, List.getElem_cons_succ, List.setIfInBounds_toArray, List.set_cons_zero, List.set_cons_succ]
              refine wpAnyH_done (by kernel_rfl) ?_ _
              go_wp2_with fail
              go_meet
              exact ⟨_, rfl, l3, ⟨z2, l2, hb4, e2⟩, N4⟩
            · refine step_wp (by rfl) ?_
              refine wp_alloc_d (some 17) _ (ints .i64 (List.replicate 16 0)) rfl rfl Try.zeroValue48 ?_
              obtain ⟨m2, hm2⟩ : ∃ wNew, wNew = World.alloc m1 (.cells ((ints .i64 (List.replicate 16 0))).toArray 48) := ⟨_, rfl⟩
              rw [← hm2]
              have b2 : Ext m1 m2 := by rw [hm2]; exact Ext.alloc _ _
              obtain ⟨g2, hg2⟩ : ∃ gNew, gNew = (m1).heap.size := ⟨_, rfl⟩
              rw [← hg2]
              have z2 : Blk m2 g2 (ints .i64 (List.replicate 16 0)) 48 := by rw [hm2, hg2]; exact Blk.made _ _ _
              have l2 : (wl10).heap.size ≤ g2 := by rw [hg2]; exact N1.size
              clear hm2 hg2
              have N2 : Ext wl10 m2 := N1.trans b2
              refine hK.out _ _ N2 (fun hHeld => ?_)
              clear hK K
              try simp only [Act.put, List.getElem_toArray, List.getElem_cons_zero, List.getElem_cons_succ, List.setIfInBounds_toArray, List.set_cons_zero, List.set_cons_succ]
              refine wpAnyH_ready (rs := [4]) (by kernel_rfl) (by simp) (AllReadyH.cons rfl (fun K hK => ?_) AllReadyH.nil)
              go_simp
              refine (rmul_f _ e1 HeA.out).mono ?_
              rintro e m3 ⟨v3, rfl, e3, b3⟩
              obtain ⟨z3, hz3, l3⟩ := e3.form
              subst hz3
              have z2 := z2.below b3
              have N3 : Ext wl10 m3 := N2.trans b3
              refine hK.out _ _ N3 (fun hHeld => ?_)
              clear hK K
              try simp only [Act.put, List.getElem_toArray, List.getElem_cons_zero, List.getElem_cons_succ, List.setIfInBounds_toArray, List.set_cons_zero, List.set_cons_succ]
              refine wpAnyH_ready (rs := [6]) (by kernel_rfl) (by simp) (AllReadyH.cons rfl (fun K hK => ?_) AllReadyH.nil)
              refine step_wp (by rfl) ?_
              refine wp_store_blk _ _ _ rfl g2 (ints .i64 z3) rfl rfl _ _ z2 (by rw [ints_length, l3]; rfl) (el_size l3) (ints_one _ _) ?_
              intro m4 hb4 hg4
              have N4 : Ext wl10 m4 := ext_grown N3 hg4 l2
              refine hK.out _ _ N4 (fun hHeld => ?_)
              clear hK K
              try simp only [Act.put, List.getElem_toArray, List.getElem_cons_zero, List.getElem_cons_succ, List.setIfInBounds_toArray, List.set_cons_zero, List.set_cons_succ]
              refine wpAnyH_done (by kernel_rfl) ?_ _
              go_wp2_with fail
              go_meet
              exact ⟨_, rfl, l2, ⟨z3, l3, hb4, e3⟩, N4⟩
          · refine step_wp (by rfl) ?_
            refine wp_alloc_d (some 17) _ (ints .i64 (List.replicate 16 0)) rfl rfl Try.zeroValue48 ?_
            obtain ⟨m1, hm1⟩ : ∃ wNew, wNew = World.alloc wl10.drew (.cells ((ints .i64 (List.replicate 16 0))).toArray 48) := ⟨_, rfl⟩
            rw [← hm1]
            have b1 : Ext wl10.drew m1 := by rw [hm1]; exact Ext.alloc _ _
            obtain ⟨g1, hg1⟩ : ∃ gNew, gNew = (wl10.drew).heap.size := ⟨_, rfl⟩
            rw [← hg1]
            have z1 : Blk m1 g1 (ints .i64 (List.replicate 16 0)) 48 := by rw [hm1, hg1]; exact Blk.made _ _ _
            have l1 : (wl10).heap.size ≤ g1 := by rw [hg1]; exact B0.size
            clear hm1 hg1
            have N1 : Ext wl10 m1 := B0.trans b1
            refine hK.out _ _ N1 (fun hHeld => ?_)
            clear hK K
            try simp only [Act.put, List.getElem_toArray, List.getElem_cons_zero, List.getElem_cons_succ, List.setIfInBounds_toArray, List.set_cons_zero, List.set_cons_succ]
            refine wpAnyH_ready (rs := [2]) (by kernel_rfl) (by simp) (AllReadyH.cons rfl (fun K hK => ?_) AllReadyH.nil)
            go_simp
            refine (rsub_f _ Hex3.out Hez3.out).mono ?_
            rintro e m2 ⟨v2, rfl, e2, b2⟩
            obtain ⟨z2, hz2, l2⟩ := e2.form
            subst hz2
            have z1 := z1.below b2
            have N2 : Ext wl10 m2 := N1.trans b2
            refine hK.out _ _ N2 (fun hHeld => ?_)
            clear hK K
            try simp only [Act.put, List.getElem_toArray, List.getElem_cons_zero, List.getElem_cons_succ, List.setIfInBounds_toArray, List.set_cons_zero, List.set_cons_succ]
            refine wpAnyH_ready (rs := [4]) (by kernel_rfl) (by simp) (AllReadyH.cons rfl (fun K hK => ?_) AllReadyH.nil)
            go_simp
            refine (rmul_f _ e2 HeA.out).mono ?_
            rintro e m3 ⟨v3, rfl, e3, b3⟩
            obtain ⟨z3, hz3, l3⟩ := e3.form
            subst hz3
            have z1 := z1.below b3
            have N3 : Ext wl10 m3 := N2.trans b3
            refine hK.out _ _ N3 (fun hHeld => ?_)
            clear hK K
            try simp only [Act.put, List.getElem_toArray, List.getElem_cons_zero, List.getElem_cons_succ, List.setIfInBounds_toArray, List.set_cons_zero, List.set_cons_succ]
            refine wpAnyH_ready (rs := [6]) (by kernel_rfl) (by simp) (AllReadyH.cons rfl (fun K hK => ?_) AllReadyH.nil)
            refine step_wp (by rfl) ?_
            refine wp_store_blk _ _ _ rfl g1 (ints .i64 z3) rfl rfl _ _ z1 (by rw [ints_length, l3]; rfl) (el_size l3) (ints_one _ _) ?_
            intro m4 hb4 hg4
            have N4 : Ext wl10 m4 := ext_grown N3 hg4 l1
            refine hK.out _ _ N4 (fun hHeld => ?_)
            clear hK K
            try simp only [Act.put, List.getElem_toArray, List.getElem_cons_zero, List.getElem_cons_succ, List.setIfInBounds_toArray, List.set_cons_zero, List.set_cons_succ]
            refine wpAnyH_done (by kernel_rfl) ?_ _
            go_wp2_with fail
            go_meet
            exact ⟨_, rfl, l1, ⟨z3, l3, hb4, e3⟩, N4⟩
        case rest =>
          obtain ⟨TDA, rfl, hTg, hEl, hX⟩ := hcut
          have HTDA : Hid (TEe < TDA) := Lib.hid (Nat.lt_of_lt_of_le EEe.out.lt hTg)
          have Ex1 := Lib.hid (Ex1.out.ext hX)
          have Ex2 := Lib.hid (Ex2.out.ext hX)
          have Ez2 := Lib.hid (Ez2.out.ext hX)
          have Ex3 := Lib.hid (Ex3.out.ext hX)
          have Ez3 := Lib.hid (Ez3.out.ext hX)
          have EA := Lib.hid (EA.out.ext hX)
          have EAA := Lib.hid (EAA.out.ext hX)
          have EBb := Lib.hid (EBb.out.ext hX)
          have EBB := Lib.hid (EBB.out.ext hX)
          have EEe := Lib.hid (EEe.out.ext hX)
          have HK := Lib.hid (ext_blk HK.out hX)
          have HR := Lib.hid (ext_blk HR.out hX)
          have HE := Lib.hid (HE.out.trans hX)
          have EDA := Lib.hid hEl
          have HO := Lib.hid (And.intro HO.out HTDA.out)
          clear hEl hX hTg
          generalize wc = wl11 at *
          go_wp2_with fail
          obtain ⟨zx3, lx3, bx3, ex3⟩ := Ex3.out
          have Hbx3 := Lib.hid bx3
          have Hex3 := Lib.hid ex3
          have Hlx3 := Lib.hid lx3
          have Hix3 := Lib.hid (el_size lx3)
          clear bx3 ex3 lx3
          obtain ⟨zz3, lz3, bz3, ez3⟩ := Ez3.out
          have Hbz3 := Lib.hid bz3
          have Hez3 := Lib.hid ez3
          have Hlz3 := Lib.hid lz3
          have Hiz3 := Lib.hid (el_size lz3)
          clear bz3 ez3 lz3
          obtain ⟨zBb, lBb, bBb, eBb⟩ := EBb.out
          have HbBb := Lib.hid bBb
          have HeBb := Lib.hid eBb
          have HlBb := Lib.hid lBb
          have HiBb := Lib.hid (el_size lBb)
          clear bBb eBb lBb
          go_wp2_with fail
          try simp only [Act.put, List.getElem_toArray, List.getElem_cons_zero, List.getElem_cons_succ, List.setIfInBounds_toArray, List.set_cons_zero, List.set_cons_succ]
          go_cut [18] from 72 to 76 (fun vq wq => ∃ g, vq = .pointer (some ⟨g, 0, none⟩) ∧ wl11.heap.size ≤ g ∧ ElB wq g ((s.x3 + s.z3) * (s.x2 - s.z2)) ∧ Ext wl11 wq)
          case first =>
            have B0 : Ext wl11 wl11.drew := Ext.drew _
            refine wp_region_held_drew (S := fun w' => Ext wl11 w') (by kernel_rfl) B0 (fun hHeld => ?_)
            refine wpAnyH_take (i := 0) (v := .agg (ints .i64 zx3).toArray) rfl (by kernel_rfl) (by kernel_rfl) (by kernel_rfl) (fun _ _ _ h => h) (yieldsIf_load_mid (by rfl) _ _ rfl Tx3 0 rfl _ _ (fun w h => bl_range Hbx3.out h) Try.underlying48 rfl Hix3.out) hHeld ?_
            simp only [Act.put, List.getElem_toArray, List.getElem_cons_zero, List.getElem_cons_succ, List.setIfInBounds_toArray, List.set_cons_zero, List.set_cons_succ]
            refine wpAnyH_take (i := 1) (v := .agg (ints .i64 zz3).toArray) rfl (by kernel_rfl) (by kernel_rfl) (by kernel_rfl) (fun _ _ _ h => h) (yieldsIf_load_mid (by rfl) _ _ rfl Tz3 0 rfl _ _ (fun w h => bl_range Hbz3.out h) Try.underlying48 rfl Hiz3.out) hHeld ?_
            simp only [Act.put, List.getElem_toArray, List.getElem_cons_zero, List.getElem_cons_succ, List.setIfInBounds_toArray, List.set_cons_zero, List.set_cons_succ]
            refine wpAnyH_take (i := 3) (v := .agg (ints .i64 zBb).toArray) rfl (by kernel_rfl) (by kernel_rfl) (by kernel_rfl) (fun _ _ _ h => h) (yieldsIf_load_mid (by rfl) _ _ rfl TBb 0 rfl _ _ (fun w h => bl_range HbBb.out h) Try.underlying48 rfl HiBb.out) hHeld ?_
            simp only [Act.put, List.getElem_toArray, List.getElem_cons_zero, List.getElem_cons_succ, List.setIfInBounds_toArray, List.set_cons_zero, List.set_cons_succ]
            refine wpAnyH_ready (rs := [2, 5]) (by kernel_rfl) (by simp) (AllReadyH.cons rfl (fun K hK => ?_) (AllReadyH.cons rfl (fun K hK => ?_) AllReadyH.nil))
            · go_simp
              refine (radd_f _ Hex3.out Hez3.out).mono ?_
              rintro e m1 ⟨v1, rfl, e1, b1⟩
              obtain ⟨z1, hz1, l1⟩ := e1.form
              subst hz1
              have N1 : Ext wl11 m1 := B0.trans b1
              refine hK.out _ _ N1 (fun hHeld => ?_)
              clear hK K
              try simp only [Act.put, List.getElem_toArray, List.getElem_cons_zero, List.getElem_cons_succ, List.setIfInBounds_toArray, List.set_cons_zero, List.set_cons_succ]
              refine wpAnyH_ready (rs := [4, 5]) (by kernel_rfl) (by simp) (AllReadyH.cons rfl (fun K hK => ?_) (AllReadyH.cons rfl (fun K hK => ?_) AllReadyH.nil))
              · go_simp
                refine (rmul_f _ e1 HeBb.out).mono ?_
                rintro e m2 ⟨v2, rfl, e2, b2⟩
                obtain ⟨z2, hz2, l2⟩ := e2.form
                subst hz2
                have N2 : Ext wl11 m2 := N1.trans b2
                refine hK.out _ _ N2 (fun hHeld => ?_)
                clear hK K
                try simp only [Act.put, List.getElem_toArray, List.getElem_cons_zero, List.getElem_cons_succ, List.setIfInBounds_toArray, List.set_cons_zero, List.set_cons_succ]
                refine wpAnyH_ready (rs := [5]) (by kernel_rfl) (by simp) (AllReadyH.cons rfl (fun K hK => ?_) AllReadyH.nil)
                refine step_wp (by rfl) ?_
                refine wp_alloc_d (some 18) _ (ints .i64 (List.replicate 16 0)) rfl rfl Try.zeroValue48 ?_
                obtain ⟨m3, hm3⟩ : ∃ wNew, wNew = World.alloc m2 (.cells ((ints .i64 (List.replicate 16 0))).toArray 48) := ⟨_, rfl⟩
                rw [← hm3]
                have b3 : Ext m2 m3 := by rw [hm3]; exact Ext.alloc _ _
                obtain ⟨g3, hg3⟩ : ∃ gNew, gNew = (m2).heap.size := ⟨_, rfl⟩
                rw [← hg3]
                have z3 : Blk m3 g3 (ints .i64 (List.replicate 16 0)) 48 := by rw [hm3, hg3]; exact Blk.made _ _ _
                have l3 : (wl11).heap.size ≤ g3 := by rw [hg3]; exact N2.size
                clear hm3 hg3
                have N3 : Ext wl11 m3 := N2.trans b3
                refine hK.out _ _ N3 (fun hHeld => ?_)
                clear hK K
                try simp only [Act.put, List.getElem_toArray, List.getElem_cons_zero, List.getElem_cons_succ, List.setIfInBounds_toArray, List.set_cons_zero, List.set_cons_succ]
                refine wpAnyH_ready (rs := [6]) (by kernel_rfl) (by simp) (AllReadyH.cons rfl (fun K hK => ?_) AllReadyH.nil)
                refine step_wp (by rfl) ?_
                refine wp_store_blk _ _ _ rfl g3 (ints .i64 z2) rfl rfl _ _ z3 (by rw [ints_length, l2]; rfl) (el_size l2) (ints_one _ _) ?_
                intro m4 hb4 hg4
                have N4 : Ext wl11 m4 := ext_grown N3 hg4 l3
                refine hK.out _ _ N4 (fun hHeld => ?_)
                clear hK K
                try simp only [Act.put, List.getElem_toArray, List.getElem_cons_zero, List.getElem_cons_succ, List.setIfInBounds_toArray, List.set_cons_zero, List.set_cons_succ]
                refine wpAnyH_done (by kernel_rfl) ?_ _
                go_wp2_with fail
                go_meet
                exact ⟨_, rfl, l3, ⟨z2, l2, hb4, e2⟩, N4⟩
              · refine step_wp (by rfl) ?_
                refine wp_alloc_d (some 18) _ (ints .i64 (List.replicate 16 0)) rfl rfl Try.zeroValue48 ?_
                obtain ⟨m2, hm2⟩ : ∃ wNew, wNew = World.alloc m1 (.cells ((ints .i64 (List.replicate 16 0))).toArray 48) := ⟨_, rfl⟩
                rw [← hm2]
                have b2 : Ext m1 m2 := by rw [hm2]; exact Ext.alloc _ _
                obtain ⟨g2, hg2⟩ : ∃ gNew, gNew = (m1).heap.size := ⟨_, rfl⟩
                rw [← hg2]
                have z2 : Blk m2 g2 (ints .i64 (List.replicate 16 0)) 48 := by rw [hm2, hg2]; exact Blk.made _ _ _
                have l2 : (wl11).heap.size ≤ g2 := by rw [hg2]; exact N1.size
                clear hm2 hg2
                have N2 : Ext wl11 m2 := N1.trans b2
                refine hK.out _ _ N2 (fun hHeld => ?_)
                clear hK K
                try simp only [Act.put, List.getElem_toArray, List.getElem_cons_zero, List.getElem_cons_succ, List.setIfInBounds_toArray, List.set_cons_zero, List.set_cons_succ]
                refine wpAnyH_ready (rs := [4]) (by kernel_rfl) (by simp) (AllReadyH.cons rfl (fun K hK => ?_) AllReadyH.nil)
                go_simp
                refine (rmul_f _ e1 HeBb.out).mono ?_
                rintro e m3 ⟨v3, rfl, e3, b3⟩
                obtain ⟨z3, hz3, l3⟩ := e3.form
                subst hz3
                have z2 := z2.below b3
                have N3 : Ext wl11 m3 := N2.trans b3
                refine hK.out _ _ N3 (fun hHeld => ?_)
                clear hK K
                try simp only [Act.put, List.getElem_toArray, List.getElem_cons_zero, List.getElem_cons_succ, List.setIfInBounds_toArray, List.set_cons_zero, List.set_cons_succ]
                refine wpAnyH_ready (rs := [6]) (by kernel_rfl) (by simp) (AllReadyH.cons rfl (fun K hK => ?_) AllReadyH.nil)
                refine step_wp (by rfl) ?_
                refine wp_store_blk _ _ _ rfl g2 (ints .i64 z3) rfl rfl _ _ z2 (by rw [ints_length, l3]; rfl) (el_size l3) (ints_one _ _) ?_
                intro m4 hb4 hg4
                have N4 : Ext wl11 m4 := ext_grown N3 hg4 l2
                refine hK.out _ _ N4 (fun hHeld => ?_)
                clear hK K
                try simp only [Act.put, List.getElem_toArray, List.getElem_cons_zero, List.getElem_cons_succ, List.setIfInBounds_toArray, List.set_cons_zero, List.set_cons_succ]
                refine wpAnyH_done (by kernel_rfl) ?_ _
                go_wp2_with fail
                go_meet
                exact ⟨_, rfl, l2, ⟨z3, l3, hb4, e3⟩, N4⟩
            · refine step_wp (by rfl) ?_
              refine wp_alloc_d (some 18) _ (ints .i64 (List.replicate 16 0)) rfl rfl Try.zeroValue48 ?_
              obtain ⟨m1, hm1⟩ : ∃ wNew, wNew = World.alloc wl11.drew (.cells ((ints .i64 (List.replicate 16 0))).toArray 48) := ⟨_, rfl⟩
              rw [← hm1]
              have b1 : Ext wl11.drew m1 := by rw [hm1]; exact Ext.alloc _ _
              obtain ⟨g1, hg1⟩ : ∃ gNew, gNew = (wl11.drew).heap.size := ⟨_, rfl⟩
              rw [← hg1]
              have z1 : Blk m1 g1 (ints .i64 (List.replicate 16 0)) 48 := by rw [hm1, hg1]; exact Blk.made _ _ _
              have l1 : (wl11).heap.size ≤ g1 := by rw [hg1]; exact B0.size
              clear hm1 hg1
              have N1 : Ext wl11 m1 := B0.trans b1
              refine hK.out _ _ N1 (fun hHeld => ?_)
              clear hK K
              try simp only [Act.put, List.getElem_toArray, List.getElem_cons_zero, List.getElem_cons_succ, List.setIfInBounds_toArray, List.set_cons_zero, List.set_cons_succ]
              refine wpAnyH_ready (rs := [2]) (by kernel_rfl) (by simp) (AllReadyH.cons rfl (fun K hK => ?_) AllReadyH.nil)
              go_simp
              refine (radd_f _ Hex3.out Hez3.out).mono ?_
              rintro e m2 ⟨v2, rfl, e2, b2⟩
              obtain ⟨z2, hz2, l2⟩ := e2.form
              subst hz2
              have z1 := z1.below b2
              have N2 : Ext wl11 m2 := N1.trans b2
              refine hK.out _ _ N2 (fun hHeld => ?_)
              clear hK K
              try simp only [Act.put, List.getElem_toArray, List.getElem_cons_zero, List.getElem_cons_succ, List.setIfInBounds_toArray, List.set_cons_zero, List.set_cons_succ]
              refine wpAnyH_ready (rs := [4]) (by kernel_rfl) (by simp) (AllReadyH.cons rfl (fun K hK => ?_) AllReadyH.nil)
              go_simp
              refine (rmul_f _ e2 HeBb.out).mono ?_
              rintro e m3 ⟨v3, rfl, e3, b3⟩
              obtain ⟨z3, hz3, l3⟩ := e3.form
              subst hz3
              have z1 := z1.below b3
              have N3 : Ext wl11 m3 := N2.trans b3
              refine hK.out _ _ N3 (fun hHeld => ?_)
              clear hK K
              try simp only [Act.put, List.getElem_toArray, List.getElem_cons_zero, List.getElem_cons_succ, List.setIfInBounds_toArray, List.set_cons_zero, List.set_cons_succ]
              refine wpAnyH_ready (rs := [6]) (by kernel_rfl) (by simp) (AllReadyH.cons rfl (fun K hK => ?_) AllReadyH.nil)
              refine step_wp (by rfl) ?_
              refine wp_store_blk _ _ _ rfl g1 (ints .i64 z3) rfl rfl _ _ z1 (by rw [ints_length, l3]; rfl) (el_size l3) (ints_one _ _) ?_
              intro m4 hb4 hg4
              have N4 : Ext wl11 m4 := ext_grown N3 hg4 l1
              refine hK.out _ _ N4 (fun hHeld => ?_)
              clear hK K
              try simp only [Act.put, List.getElem_toArray, List.getElem_cons_zero, List.getElem_cons_succ, List.setIfInBounds_toArray, List.set_cons_zero, List.set_cons_succ]
              refine wpAnyH_done (by kernel_rfl) ?_ _
              go_wp2_with fail
              go_meet
              exact ⟨_, rfl, l1, ⟨z3, l3, hb4, e3⟩, N4⟩
          case rest =>
            obtain ⟨TCB, rfl, hTg, hEl, hX⟩ := hcut
            have HTCB : Hid (TDA < TCB) := Lib.hid (Nat.lt_of_lt_of_le EDA.out.lt hTg)
            have Ex1 := Lib.hid (Ex1.out.ext hX)
            have Ex2 := Lib.hid (Ex2.out.ext hX)
            have Ez2 := Lib.hid (Ez2.out.ext hX)
            have Ex3 := Lib.hid (Ex3.out.ext hX)
            have Ez3 := Lib.hid (Ez3.out.ext hX)
            have EA := Lib.hid (EA.out.ext hX)
            have EAA := Lib.hid (EAA.out.ext hX)
            have EBb := Lib.hid (EBb.out.ext hX)
            have EBB := Lib.hid (EBB.out.ext hX)
            have EEe := Lib.hid (EEe.out.ext hX)
            have EDA := Lib.hid (EDA.out.ext hX)
            have HK := Lib.hid (ext_blk HK.out hX)
            have HR := Lib.hid (ext_blk HR.out hX)
            have HE := Lib.hid (HE.out.trans hX)
            have ECB := Lib.hid hEl
            have HO := Lib.hid (And.intro HO.out HTCB.out)
            clear hEl hX hTg
            generalize wc = wl12 at *
            obtain ⟨zDA, lDA, bDA, eDA⟩ := EDA.out
            have HbDA := Lib.hid bDA
            have HeDA := Lib.hid eDA
            have HlDA := Lib.hid lDA
            have HiDA := Lib.hid (el_size lDA)
            clear bDA eDA lDA
            obtain ⟨zCB, lCB, bCB, eCB⟩ := ECB.out
            have HbCB := Lib.hid bCB
            have HeCB := Lib.hid eCB
            have HlCB := Lib.hid lCB
            have HiCB := Lib.hid (el_size lCB)
            clear bCB eCB lCB
            go_wp2_with (first | (refine wpList_load_blk rfl _ _ rfl TDA rfl _ _ _ _ HbDA.out Try.underlying48 HiDA.out ?_) | (refine wpList_load_blk rfl _ _ rfl TCB rfl _ _ _ _ HbCB.out Try.underlying48 HiCB.out ?_))
            refine (radd_f wl12 HeDA.out HeCB.out).mono ?_
            rintro e wl13 ⟨r, rfl, hr, hb⟩
            obtain ⟨z, hz, lz⟩ := hr.form
            subst hz
            have Ex1 := Lib.hid (Ex1.out.ext hb)
            have Ex2 := Lib.hid (Ex2.out.ext hb)
            have Ez2 := Lib.hid (Ez2.out.ext hb)
            have Ex3 := Lib.hid (Ex3.out.ext hb)
            have Ez3 := Lib.hid (Ez3.out.ext hb)
            have EA := Lib.hid (EA.out.ext hb)
            have EAA := Lib.hid (EAA.out.ext hb)
            have EBb := Lib.hid (EBb.out.ext hb)
            have EBB := Lib.hid (EBB.out.ext hb)
            have EEe := Lib.hid (EEe.out.ext hb)
            have EDA := Lib.hid (EDA.out.ext hb)
            have ECB := Lib.hid (ECB.out.ext hb)
            have HK := Lib.hid (ext_blk HK.out hb)
            have HR := Lib.hid (ext_blk HR.out hb)
            have HE := Lib.hid (HE.out.trans hb)
            clear hb
            have HZ := Lib.hid (Blk.made wl13 (ints .i64 (List.replicate 16 0)) 48)
            have HEA := Lib.hid (Ext.alloc wl13 (.cells (ints .i64 (List.replicate 16 0)).toArray 48))
            have HI := Lib.hid (el_size lz)
            have HL : Hid ((ints .i64 z).length = (ints .i64 (List.replicate 16 0)).length) := Lib.hid (by rw [ints_length, lz]; rfl)
            go_upto_region 23 with (refine wpList_store_blk rfl _ _ _ rfl wl13.heap.size (ints .i64 z) rfl rfl _ _ HZ.out HL.out HI.out (ints_one _ _) ?_; intro wl14 hbm hgm)
            have HX := Lib.hid (ext_grown HEA.out hgm (Nat.le_refl _))
            obtain ⟨TS, hT⟩ : ∃ T, T = wl13.heap.size := ⟨_, rfl⟩
            have HTS : Hid (TCB < TS) := Lib.hid (by rw [hT]; exact ECB.out.lt)
            rw [← hT] at hbm ⊢
            have Ex1 := Lib.hid (Ex1.out.ext HX.out)
            have Ex2 := Lib.hid (Ex2.out.ext HX.out)
            have Ez2 := Lib.hid (Ez2.out.ext HX.out)
            have Ex3 := Lib.hid (Ex3.out.ext HX.out)
            have Ez3 := Lib.hid (Ez3.out.ext HX.out)
            have EA := Lib.hid (EA.out.ext HX.out)
            have EAA := Lib.hid (EAA.out.ext HX.out)
            have EBb := Lib.hid (EBb.out.ext HX.out)
            have EBB := Lib.hid (EBB.out.ext HX.out)
            have EEe := Lib.hid (EEe.out.ext HX.out)
            have EDA := Lib.hid (EDA.out.ext HX.out)
            have ECB := Lib.hid (ECB.out.ext HX.out)
            have HK := Lib.hid (ext_blk HK.out HX.out)
            have HR := Lib.hid (ext_blk HR.out HX.out)
            have HE := Lib.hid (HE.out.trans HX.out)
            have ES : Hid (ElB wl14 TS (((s.x3 - s.z3) * (s.x2 + s.z2)) + ((s.x3 + s.z3) * (s.x2 - s.z2)))) := Lib.hid ⟨z, lz, hbm, hr⟩
            have HO := Lib.hid (And.intro HO.out HTS.out)
            clear hbm hgm HZ HEA HX hT hr HI HL lz
            obtain ⟨zDA, lDA, bDA, eDA⟩ := EDA.out
            have HbDA := Lib.hid bDA
            have HeDA := Lib.hid eDA
            have HlDA := Lib.hid lDA
            have HiDA := Lib.hid (el_size lDA)
            clear bDA eDA lDA
            obtain ⟨zCB, lCB, bCB, eCB⟩ := ECB.out
            have HbCB := Lib.hid bCB
            have HeCB := Lib.hid eCB
            have HlCB := Lib.hid lCB
            have HiCB := Lib.hid (el_size lCB)
            clear bCB eCB lCB
            go_wp2_with (first | (refine wpList_load_blk rfl _ _ rfl TDA rfl _ _ _ _ HbDA.out Try.underlying48 HiDA.out ?_) | (refine wpList_load_blk rfl _ _ rfl TCB rfl _ _ _ _ HbCB.out Try.underlying48 HiCB.out ?_))
            refine (rsub_f wl14 HeDA.out HeCB.out).mono ?_
            rintro e wl15 ⟨r, rfl, hr, hb⟩
            obtain ⟨z, hz, lz⟩ := hr.form
            subst hz
            have Ex1 := Lib.hid (Ex1.out.ext hb)
            have Ex2 := Lib.hid (Ex2.out.ext hb)
            have Ez2 := Lib.hid (Ez2.out.ext hb)
            have Ex3 := Lib.hid (Ex3.out.ext hb)
            have Ez3 := Lib.hid (Ez3.out.ext hb)
            have EA := Lib.hid (EA.out.ext hb)
            have EAA := Lib.hid (EAA.out.ext hb)
            have EBb := Lib.hid (EBb.out.ext hb)
            have EBB := Lib.hid (EBB.out.ext hb)
            have EEe := Lib.hid (EEe.out.ext hb)
            have EDA := Lib.hid (EDA.out.ext hb)
            have ECB := Lib.hid (ECB.out.ext hb)
            have ES := Lib.hid (ES.out.ext hb)
            have HK := Lib.hid (ext_blk HK.out hb)
            have HR := Lib.hid (ext_blk HR.out hb)
            have HE := Lib.hid (HE.out.trans hb)
            clear hb
            have HZ := Lib.hid (Blk.made wl15 (ints .i64 (List.replicate 16 0)) 48)
            have HEA := Lib.hid (Ext.alloc wl15 (.cells (ints .i64 (List.replicate 16 0)).toArray 48))
            have HI := Lib.hid (el_size lz)
            have HL : Hid ((ints .i64 z).length = (ints .i64 (List.replicate 16 0)).length) := Lib.hid (by rw [ints_length, lz]; rfl)
            go_upto_region 24 with (refine wpList_store_blk rfl _ _ _ rfl wl15.heap.size (ints .i64 z) rfl rfl _ _ HZ.out HL.out HI.out (ints_one _ _) ?_; intro wl16 hbm hgm)
            have HX := Lib.hid (ext_grown HEA.out hgm (Nat.le_refl _))
            obtain ⟨TDd, hT⟩ : ∃ T, T = wl15.heap.size := ⟨_, rfl⟩
            have HTDd : Hid (TS < TDd) := Lib.hid (by rw [hT]; exact ES.out.lt)
            rw [← hT] at hbm ⊢
            have Ex1 := Lib.hid (Ex1.out.ext HX.out)
            have Ex2 := Lib.hid (Ex2.out.ext HX.out)
            have Ez2 := Lib.hid (Ez2.out.ext HX.out)
            have Ex3 := Lib.hid (Ex3.out.ext HX.out)
            have Ez3 := Lib.hid (Ez3.out.ext HX.out)
            have EA := Lib.hid (EA.out.ext HX.out)
            have EAA := Lib.hid (EAA.out.ext HX.out)
            have EBb := Lib.hid (EBb.out.ext HX.out)
            have EBB := Lib.hid (EBB.out.ext HX.out)
            have EEe := Lib.hid (EEe.out.ext HX.out)
            have EDA := Lib.hid (EDA.out.ext HX.out)
            have ECB := Lib.hid (ECB.out.ext HX.out)
            have ES := Lib.hid (ES.out.ext HX.out)
            have HK := Lib.hid (ext_blk HK.out HX.out)
            have HR := Lib.hid (ext_blk HR.out HX.out)
            have HE := Lib.hid (HE.out.trans HX.out)
            have EDd : Hid (ElB wl16 TDd (((s.x3 - s.z3) * (s.x2 + s.z2)) - ((s.x3 + s.z3) * (s.x2 - s.z2)))) := Lib.hid ⟨z, lz, hbm, hr⟩
            have HO := Lib.hid (And.intro HO.out HTDd.out)
            clear hbm hgm HZ HEA HX hT hr HI HL lz
            obtain ⟨zS, lS, bS, eS⟩ := ES.out
            have HbS := Lib.hid bS
            have HeS := Lib.hid eS
            have HlS := Lib.hid lS
            have HiS := Lib.hid (el_size lS)
            clear bS eS lS
            go_wp2_with (first | (refine wpList_load_blk rfl _ _ rfl TS rfl _ _ _ _ HbS.out Try.underlying48 HiS.out ?_))
            refine (rmul_f wl16 HeS.out HeS.out).mono ?_
            rintro e wl17 ⟨r, rfl, hr, hb⟩
            obtain ⟨z, hz, lz⟩ := hr.form
            subst hz
            have Ex1 := Lib.hid (Ex1.out.ext hb)
            have Ex2 := Lib.hid (Ex2.out.ext hb)
            have Ez2 := Lib.hid (Ez2.out.ext hb)
            have Ex3 := Lib.hid (Ex3.out.ext hb)
            have Ez3 := Lib.hid (Ez3.out.ext hb)
            have EA := Lib.hid (EA.out.ext hb)
            have EAA := Lib.hid (EAA.out.ext hb)
            have EBb := Lib.hid (EBb.out.ext hb)
            have EBB := Lib.hid (EBB.out.ext hb)
            have EEe := Lib.hid (EEe.out.ext hb)
            have EDA := Lib.hid (EDA.out.ext hb)
            have ECB := Lib.hid (ECB.out.ext hb)
            have ES := Lib.hid (ES.out.ext hb)
            have EDd := Lib.hid (EDd.out.ext hb)
            have HK := Lib.hid (ext_blk HK.out hb)
            have HR := Lib.hid (ext_blk HR.out hb)
            have HE := Lib.hid (HE.out.trans hb)
            clear hb
            obtain ⟨zx3, lx3, bx3, ex3⟩ := Ex3.out
            have Hbx3 := Lib.hid bx3
            have Hex3 := Lib.hid ex3
            have Hlx3 := Lib.hid lx3
            have Hix3 := Lib.hid (el_size lx3)
            clear bx3 ex3 lx3
            have HI := Lib.hid (el_size lz)
            have HL : Hid ((ints .i64 z).length = (ints .i64 zx3).length) := Lib.hid (by rw [ints_length, ints_length, lz, Hlx3.out])
            go_upto_region 25 with (refine wpList_store_blk rfl _ _ _ rfl Tx3 (ints .i64 z) rfl rfl _ _ Hbx3.out HL.out HI.out (ints_one _ _) ?_; intro wl18 hbm hgm)
            have Ex1 := Lib.hid (Ex1.out.grown hgm (by have := HO.out; simp; omega))
            have Ex2 := Lib.hid (Ex2.out.grown hgm (by have := HO.out; simp; omega))
            have Ez2 := Lib.hid (Ez2.out.grown hgm (by have := HO.out; simp; omega))
            have Ez3 := Lib.hid (Ez3.out.grown hgm (by have := HO.out; simp; omega))
            have EA := Lib.hid (EA.out.grown hgm (by have := HO.out; simp; omega))
            have EAA := Lib.hid (EAA.out.grown hgm (by have := HO.out; simp; omega))
            have EBb := Lib.hid (EBb.out.grown hgm (by have := HO.out; simp; omega))
            have EBB := Lib.hid (EBB.out.grown hgm (by have := HO.out; simp; omega))
            have EEe := Lib.hid (EEe.out.grown hgm (by have := HO.out; simp; omega))
            have EDA := Lib.hid (EDA.out.grown hgm (by have := HO.out; simp; omega))
            have ECB := Lib.hid (ECB.out.grown hgm (by have := HO.out; simp; omega))
            have ES := Lib.hid (ES.out.grown hgm (by have := HO.out; simp; omega))
            have EDd := Lib.hid (EDd.out.grown hgm (by have := HO.out; simp; omega))
            have HK := Lib.hid (HK.out.grown hgm (by have := HO.out; simp; omega))
            have HR := Lib.hid (HR.out.grown hgm (by have := HO.out; simp; omega))
            have HE := Lib.hid (ext_grown HE.out hgm (by have := HO.out; omega))
            have Ex3 : Hid (ElB wl18 Tx3 ((((s.x3 - s.z3) * (s.x2 + s.z2)) + ((s.x3 + s.z3) * (s.x2 - s.z2))) * (((s.x3 - s.z3) * (s.x2 + s.z2)) + ((s.x3 + s.z3) * (s.x2 - s.z2))))) := Lib.hid ⟨z, lz, hbm, hr⟩
            clear hbm hgm hr HI HL lz
            obtain ⟨zx1, lx1, bx1, ex1⟩ := Ex1.out
            have Hbx1 := Lib.hid bx1
            have Hex1 := Lib.hid ex1
            have Hlx1 := Lib.hid lx1
            have Hix1 := Lib.hid (el_size lx1)
            clear bx1 ex1 lx1
            obtain ⟨zDd, lDd, bDd, eDd⟩ := EDd.out
            have HbDd := Lib.hid bDd
            have HeDd := Lib.hid eDd
            have HlDd := Lib.hid lDd
            have HiDd := Lib.hid (el_size lDd)
            clear bDd eDd lDd
            obtain ⟨zz3, lz3, bz3, ez3⟩ := Ez3.out
            have Hbz3 := Lib.hid bz3
            have Hez3 := Lib.hid ez3
            have Hlz3 := Lib.hid lz3
            have Hiz3 := Lib.hid (el_size lz3)
            clear bz3 ez3 lz3
            go_wp2_with fail
            try simp only [Act.put, List.getElem_toArray, List.getElem_cons_zero, List.getElem_cons_succ, List.setIfInBounds_toArray, List.set_cons_zero, List.set_cons_succ]
            go_cut [86] from 87 to 90 (fun vq wq => ∃ wx, Ext wl18 wx ∧ wx.grownBy wq (some Tz3) ∧ ElB wq Tz3 (x1f * ((((s.x3 - s.z3) * (s.x2 + s.z2)) - ((s.x3 + s.z3) * (s.x2 - s.z2))) * (((s.x3 - s.z3) * (s.x2 + s.z2)) - ((s.x3 + s.z3) * (s.x2 - s.z2))))))
            case first =>
              have B0 : Ext wl18 wl18.drew := Ext.drew _
              refine wp_region_held_drew (S := fun w' => Far (Tz3) wl18 w') (by kernel_rfl) (fars_ext B0) (fun hHeld => ?_)
              refine wpAnyH_take (i := 0) (v := .agg (ints .i64 zx1).toArray) rfl (by kernel_rfl) (by kernel_rfl) (by kernel_rfl) (fun _ _ _ h => h) (yieldsIf_load_mid (by rfl) _ _ rfl Tx1 0 rfl _ _ (fun w h => fars_range Hbx1.out (by have := HO.out; omega) h) Try.underlying48 rfl Hix1.out) hHeld ?_
              simp only [Act.put, List.getElem_toArray, List.getElem_cons_zero, List.getElem_cons_succ, List.setIfInBounds_toArray, List.set_cons_zero, List.set_cons_succ]
              refine wpAnyH_take (i := 1) (v := .agg (ints .i64 zDd).toArray) rfl (by kernel_rfl) (by kernel_rfl) (by kernel_rfl) (fun _ _ _ h => h) (yieldsIf_load_mid (by rfl) _ _ rfl TDd 0 rfl _ _ (fun w h => fars_range HbDd.out (by have := HO.out; omega) h) Try.underlying48 rfl HiDd.out) hHeld ?_
              simp only [Act.put, List.getElem_toArray, List.getElem_cons_zero, List.getElem_cons_succ, List.setIfInBounds_toArray, List.set_cons_zero, List.set_cons_succ]
              refine wpAnyH_take (i := 2) (v := .agg (ints .i64 zDd).toArray) rfl (by kernel_rfl) (by kernel_rfl) (by kernel_rfl) (fun _ _ _ h => h) (yieldsIf_load_mid (by rfl) _ _ rfl TDd 0 rfl _ _ (fun w h => fars_range HbDd.out (by have := HO.out; omega) h) Try.underlying48 rfl HiDd.out) hHeld ?_
              simp only [Act.put, List.getElem_toArray, List.getElem_cons_zero, List.getElem_cons_succ, List.setIfInBounds_toArray, List.set_cons_zero, List.set_cons_succ]
              refine wpAnyH_ready (rs := [3]) (by kernel_rfl) (by simp) (AllReadyH.cons rfl (fun K hK => ?_) AllReadyH.nil)
              go_simp
              refine (rmul_f _ HeDd.out HeDd.out).mono ?_
              rintro e m1 ⟨v1, rfl, e1, b1⟩
              obtain ⟨z1, hz1, l1⟩ := e1.form
              subst hz1
              have N1 : Ext wl18 m1 := B0.trans b1
              refine hK.out _ _ (fars_ext N1) (fun hHeld => ?_)
              clear hK K
              try simp only [Act.put, List.getElem_toArray, List.getElem_cons_zero, List.getElem_cons_succ, List.setIfInBounds_toArray, List.set_cons_zero, List.set_cons_succ]
              refine wpAnyH_ready (rs := [4]) (by kernel_rfl) (by simp) (AllReadyH.cons rfl (fun K hK => ?_) AllReadyH.nil)
              go_simp
              refine (rmul_f _ Hex1.out e1).mono ?_
              rintro e m2 ⟨v2, rfl, e2, b2⟩
              obtain ⟨z2, hz2, l2⟩ := e2.form
              subst hz2
              have N2 : Ext wl18 m2 := N1.trans b2
              refine hK.out _ _ (fars_ext N2) (fun hHeld => ?_)
              clear hK K
              try simp only [Act.put, List.getElem_toArray, List.getElem_cons_zero, List.getElem_cons_succ, List.setIfInBounds_toArray, List.set_cons_zero, List.set_cons_succ]
              refine wpAnyH_ready (rs := [5]) (by kernel_rfl) (by simp) (AllReadyH.cons rfl (fun K hK => ?_) AllReadyH.nil)
              refine step_wp (by rfl) ?_
              refine wp_store_blk _ _ _ rfl Tz3 (ints .i64 z2) rfl rfl _ _ (ext_blk Hbz3.out N2) (by rw [ints_length, ints_length, l2, Hlz3.out]) (el_size l2) (ints_one _ _) ?_
              intro m3 hb3 hg3
              refine hK.out _ _ (fars_put N2 hg3) (fun hHeld => ?_)
              clear hK K
              try simp only [Act.put, List.getElem_toArray, List.getElem_cons_zero, List.getElem_cons_succ, List.setIfInBounds_toArray, List.set_cons_zero, List.set_cons_succ]
              refine wpAnyH_done (by kernel_rfl) ?_ _
              go_wp2_with fail
              go_meet
              exact ⟨_, N2, hg3, ⟨z2, l2, hb3, e2⟩⟩
            case rest =>
              obtain ⟨wx, hX, hgm, hEl⟩ := hcut
              have Ex1 := Lib.hid (Ex1.out.ext hX)
              have Ex2 := Lib.hid (Ex2.out.ext hX)
              have Ez2 := Lib.hid (Ez2.out.ext hX)
              have Ex3 := Lib.hid (Ex3.out.ext hX)
              have Ez3 := Lib.hid (Ez3.out.ext hX)
              have EA := Lib.hid (EA.out.ext hX)
              have EAA := Lib.hid (EAA.out.ext hX)
              have EBb := Lib.hid (EBb.out.ext hX)
              have EBB := Lib.hid (EBB.out.ext hX)
              have EEe := Lib.hid (EEe.out.ext hX)
              have EDA := Lib.hid (EDA.out.ext hX)
              have ECB := Lib.hid (ECB.out.ext hX)
              have ES := Lib.hid (ES.out.ext hX)
              have EDd := Lib.hid (EDd.out.ext hX)
              have HK := Lib.hid (ext_blk HK.out hX)
              have HR := Lib.hid (ext_blk HR.out hX)
              have HE := Lib.hid (HE.out.trans hX)
              have Ex1 := Lib.hid (Ex1.out.grown hgm (by have := HO.out; simp; omega))
              have Ex2 := Lib.hid (Ex2.out.grown hgm (by have := HO.out; simp; omega))
              have Ez2 := Lib.hid (Ez2.out.grown hgm (by have := HO.out; simp; omega))
              have Ex3 := Lib.hid (Ex3.out.grown hgm (by have := HO.out; simp; omega))
              have EA := Lib.hid (EA.out.grown hgm (by have := HO.out; simp; omega))
              have EAA := Lib.hid (EAA.out.grown hgm (by have := HO.out; simp; omega))
              have EBb := Lib.hid (EBb.out.grown hgm (by have := HO.out; simp; omega))
              have EBB := Lib.hid (EBB.out.grown hgm (by have := HO.out; simp; omega))
              have EEe := Lib.hid (EEe.out.grown hgm (by have := HO.out; simp; omega))
              have EDA := Lib.hid (EDA.out.grown hgm (by have := HO.out; simp; omega))
              have ECB := Lib.hid (ECB.out.grown hgm (by have := HO.out; simp; omega))
              have ES := Lib.hid (ES.out.grown hgm (by have := HO.out; simp; omega))
              have EDd := Lib.hid (EDd.out.grown hgm (by have := HO.out; simp; omega))
              have HK := Lib.hid (HK.out.grown hgm (by have := HO.out; simp; omega))
              have HR := Lib.hid (HR.out.grown hgm (by have := HO.out; simp; omega))
              have HE := Lib.hid (ext_grown HE.out hgm (by have := HO.out; omega))
              have Ez3 := Lib.hid hEl
              clear hEl hX hgm
              generalize wc = wl19 at *
              obtain ⟨zAA, lAA, bAA, eAA⟩ := EAA.out
              have HbAA := Lib.hid bAA
              have HeAA := Lib.hid eAA
              have HlAA := Lib.hid lAA
              have HiAA := Lib.hid (el_size lAA)
              clear bAA eAA lAA
              obtain ⟨zBB, lBB, bBB, eBB⟩ := EBB.out
              have HbBB := Lib.hid bBB
              have HeBB := Lib.hid eBB
              have HlBB := Lib.hid lBB
              have HiBB := Lib.hid (el_size lBB)
              clear bBB eBB lBB
              go_wp2_with (first | (refine wpList_load_blk rfl _ _ rfl TAA rfl _ _ _ _ HbAA.out Try.underlying48 HiAA.out ?_) | (refine wpList_load_blk rfl _ _ rfl TBB rfl _ _ _ _ HbBB.out Try.underlying48 HiBB.out ?_))
              refine (rmul_f wl19 HeAA.out HeBB.out).mono ?_
              rintro e wl20 ⟨r, rfl, hr, hb⟩
              obtain ⟨z, hz, lz⟩ := hr.form
              subst hz
              have Ex1 := Lib.hid (Ex1.out.ext hb)
              have Ex2 := Lib.hid (Ex2.out.ext hb)
              have Ez2 := Lib.hid (Ez2.out.ext hb)
              have Ex3 := Lib.hid (Ex3.out.ext hb)
              have Ez3 := Lib.hid (Ez3.out.ext hb)
              have EA := Lib.hid (EA.out.ext hb)
              have EAA := Lib.hid (EAA.out.ext hb)
              have EBb := Lib.hid (EBb.out.ext hb)
              have EBB := Lib.hid (EBB.out.ext hb)
              have EEe := Lib.hid (EEe.out.ext hb)
              have EDA := Lib.hid (EDA.out.ext hb)
              have ECB := Lib.hid (ECB.out.ext hb)
              have ES := Lib.hid (ES.out.ext hb)
              have EDd := Lib.hid (EDd.out.ext hb)
              have HK := Lib.hid (ext_blk HK.out hb)
              have HR := Lib.hid (ext_blk HR.out hb)
              have HE := Lib.hid (HE.out.trans hb)
              clear hb
              obtain ⟨zx2, lx2, bx2, ex2⟩ := Ex2.out
              have Hbx2 := Lib.hid bx2
              have Hex2 := Lib.hid ex2
              have Hlx2 := Lib.hid lx2
              have Hix2 := Lib.hid (el_size lx2)
              clear bx2 ex2 lx2
              have HI := Lib.hid (el_size lz)
              have HL : Hid ((ints .i64 z).length = (ints .i64 zx2).length) := Lib.hid (by rw [ints_length, ints_length, lz, Hlx2.out])
              go_upto_region 27 with (refine wpList_store_blk rfl _ _ _ rfl Tx2 (ints .i64 z) rfl rfl _ _ Hbx2.out HL.out HI.out (ints_one _ _) ?_; intro wl21 hbm hgm)
              have Ex1 := Lib.hid (Ex1.out.grown hgm (by have := HO.out; simp; omega))
              have Ez2 := Lib.hid (Ez2.out.grown hgm (by have := HO.out; simp; omega))
              have Ex3 := Lib.hid (Ex3.out.grown hgm (by have := HO.out; simp; omega))
              have Ez3 := Lib.hid (Ez3.out.grown hgm (by have := HO.out; simp; omega))
              have EA := Lib.hid (EA.out.grown hgm (by have := HO.out; simp; omega))
              have EAA := Lib.hid (EAA.out.grown hgm (by have := HO.out; simp; omega))
              have EBb := Lib.hid (EBb.out.grown hgm (by have := HO.out; simp; omega))
              have EBB := Lib.hid (EBB.out.grown hgm (by have := HO.out; simp; omega))
              have EEe := Lib.hid (EEe.out.grown hgm (by have := HO.out; simp; omega))
              have EDA := Lib.hid (EDA.out.grown hgm (by have := HO.out; simp; omega))
              have ECB := Lib.hid (ECB.out.grown hgm (by have := HO.out; simp; omega))
              have ES := Lib.hid (ES.out.grown hgm (by have := HO.out; simp; omega))
              have EDd := Lib.hid (EDd.out.grown hgm (by have := HO.out; simp; omega))
              have HK := Lib.hid (HK.out.grown hgm (by have := HO.out; simp; omega))
              have HR := Lib.hid (HR.out.grown hgm (by have := HO.out; simp; omega))
              have HE := Lib.hid (ext_grown HE.out hgm (by have := HO.out; omega))
              have Ex2 : Hid (ElB wl21 Tx2 (((s.x2 + s.z2) * (s.x2 + s.z2)) * ((s.x2 - s.z2) * (s.x2 - s.z2)))) := Lib.hid ⟨z, lz, hbm, hr⟩
              clear hbm hgm hr HI HL lz
              obtain ⟨zEe, lEe, bEe, eEe⟩ := EEe.out
              have HbEe := Lib.hid bEe
              have HeEe := Lib.hid eEe
              have HlEe := Lib.hid lEe
              have HiEe := Lib.hid (el_size lEe)
              clear bEe eEe lEe
              obtain ⟨zAA, lAA, bAA, eAA⟩ := EAA.out
              have HbAA := Lib.hid bAA
              have HeAA := Lib.hid eAA
              have HlAA := Lib.hid lAA
              have HiAA := Lib.hid (el_size lAA)
              clear bAA eAA lAA
              obtain ⟨zz2, lz2, bz2, ez2⟩ := Ez2.out
              have Hbz2 := Lib.hid bz2
              have Hez2 := Lib.hid ez2
              have Hlz2 := Lib.hid lz2
              have Hiz2 := Lib.hid (el_size lz2)
              clear bz2 ez2 lz2
              go_wp2_with fail
              try simp only [Act.put, List.getElem_toArray, List.getElem_cons_zero, List.getElem_cons_succ, List.setIfInBounds_toArray, List.set_cons_zero, List.set_cons_succ]
              go_cut [94] from 95 to 100 (fun vq wq => ∃ wx, Ext wl21 wx ∧ wx.grownBy wq (some Tz2) ∧ ElB wq Tz2 ((((s.x2 + s.z2) * (s.x2 + s.z2)) - ((s.x2 - s.z2) * (s.x2 - s.z2))) * (((s.x2 + s.z2) * (s.x2 + s.z2)) + fp 121665 * (((s.x2 + s.z2) * (s.x2 + s.z2)) - ((s.x2 - s.z2) * (s.x2 - s.z2))))))
              case first =>
                have B0 : Ext wl21 wl21.drew := Ext.drew _
                refine wp_region_held_drew (S := fun w' => Far (Tz2) wl21 w') (by kernel_rfl) (fars_ext B0) (fun hHeld => ?_)
                refine wpAnyH_take (i := 0) (v := .agg (ints .i64 zEe).toArray) rfl (by kernel_rfl) (by kernel_rfl) (by kernel_rfl) (fun _ _ _ h => h) (yieldsIf_load_mid (by rfl) _ _ rfl TEe 0 rfl _ _ (fun w h => fars_range HbEe.out (by have := HO.out; omega) h) Try.underlying48 rfl HiEe.out) hHeld ?_
                simp only [Act.put, List.getElem_toArray, List.getElem_cons_zero, List.getElem_cons_succ, List.setIfInBounds_toArray, List.set_cons_zero, List.set_cons_succ]
                refine wpAnyH_take (i := 1) (v := .agg (ints .i64 zAA).toArray) rfl (by kernel_rfl) (by kernel_rfl) (by kernel_rfl) (fun _ _ _ h => h) (yieldsIf_load_mid (by rfl) _ _ rfl TAA 0 rfl _ _ (fun w h => fars_range HbAA.out (by have := HO.out; omega) h) Try.underlying48 rfl HiAA.out) hHeld ?_
                simp only [Act.put, List.getElem_toArray, List.getElem_cons_zero, List.getElem_cons_succ, List.setIfInBounds_toArray, List.set_cons_zero, List.set_cons_succ]
                refine wpAnyH_take (i := 3) (v := .agg (ints .i64 zEe).toArray) rfl (by kernel_rfl) (by kernel_rfl) (by kernel_rfl) (fun _ _ _ h => h) (yieldsIf_load_mid (by rfl) _ _ rfl TEe 0 rfl _ _ (fun w h => fars_range HbEe.out (by have := HO.out; omega) h) Try.underlying48 rfl HiEe.out) hHeld ?_
                simp only [Act.put, List.getElem_toArray, List.getElem_cons_zero, List.getElem_cons_succ, List.setIfInBounds_toArray, List.set_cons_zero, List.set_cons_succ]
                refine wpAnyH_ready (rs := [2]) (by kernel_rfl) (by simp) (AllReadyH.cons rfl (fun K hK => ?_) AllReadyH.nil)
                go_simp
                refine (rone_f 121665 _ (by omega) (by omega)).mono ?_
                rintro e m1 ⟨v1, rfl, e1, b1⟩
                obtain ⟨z1, hz1, l1⟩ := e1.form
                subst hz1
                have N1 : Ext wl21 m1 := B0.trans b1
                refine hK.out _ _ (fars_ext N1) (fun hHeld => ?_)
                clear hK K
                try simp only [Act.put, List.getElem_toArray, List.getElem_cons_zero, List.getElem_cons_succ, List.setIfInBounds_toArray, List.set_cons_zero, List.set_cons_succ]
                refine wpAnyH_ready (rs := [4]) (by kernel_rfl) (by simp) (AllReadyH.cons rfl (fun K hK => ?_) AllReadyH.nil)
                go_simp
                refine (rmul_f _ e1 HeEe.out).mono ?_
                rintro e m2 ⟨v2, rfl, e2, b2⟩
                obtain ⟨z2, hz2, l2⟩ := e2.form
                subst hz2
                have N2 : Ext wl21 m2 := N1.trans b2
                refine hK.out _ _ (fars_ext N2) (fun hHeld => ?_)
                clear hK K
                try simp only [Act.put, List.getElem_toArray, List.getElem_cons_zero, List.getElem_cons_succ, List.setIfInBounds_toArray, List.set_cons_zero, List.set_cons_succ]
                refine wpAnyH_ready (rs := [5]) (by kernel_rfl) (by simp) (AllReadyH.cons rfl (fun K hK => ?_) AllReadyH.nil)
                go_simp
                refine (radd_f _ HeAA.out e2).mono ?_
                rintro e m3 ⟨v3, rfl, e3, b3⟩
                obtain ⟨z3, hz3, l3⟩ := e3.form
                subst hz3
                have N3 : Ext wl21 m3 := N2.trans b3
                refine hK.out _ _ (fars_ext N3) (fun hHeld => ?_)
                clear hK K
                try simp only [Act.put, List.getElem_toArray, List.getElem_cons_zero, List.getElem_cons_succ, List.setIfInBounds_toArray, List.set_cons_zero, List.set_cons_succ]
                refine wpAnyH_ready (rs := [6]) (by kernel_rfl) (by simp) (AllReadyH.cons rfl (fun K hK => ?_) AllReadyH.nil)
                go_simp
                refine (rmul_f _ HeEe.out e3).mono ?_
                rintro e m4 ⟨v4, rfl, e4, b4⟩
                obtain ⟨z4, hz4, l4⟩ := e4.form
                subst hz4
                have N4 : Ext wl21 m4 := N3.trans b4
                refine hK.out _ _ (fars_ext N4) (fun hHeld => ?_)
                clear hK K
                try simp only [Act.put, List.getElem_toArray, List.getElem_cons_zero, List.getElem_cons_succ, List.setIfInBounds_toArray, List.set_cons_zero, List.set_cons_succ]
                refine wpAnyH_ready (rs := [7]) (by kernel_rfl) (by simp) (AllReadyH.cons rfl (fun K hK => ?_) AllReadyH.nil)
                refine step_wp (by rfl) ?_
                refine wp_store_blk _ _ _ rfl Tz2 (ints .i64 z4) rfl rfl _ _ (ext_blk Hbz2.out N4) (by rw [ints_length, ints_length, l4, Hlz2.out]) (el_size l4) (ints_one _ _) ?_
                intro m5 hb5 hg5
                refine hK.out _ _ (fars_put N4 hg5) (fun hHeld => ?_)
                clear hK K
                try simp only [Act.put, List.getElem_toArray, List.getElem_cons_zero, List.getElem_cons_succ, List.setIfInBounds_toArray, List.set_cons_zero, List.set_cons_succ]
                refine wpAnyH_done (by kernel_rfl) ?_ _
                go_wp2_with fail
                go_meet
                exact ⟨_, N4, hg5, ⟨z4, l4, hb5, e4⟩⟩
              case rest =>
                obtain ⟨wx, hX, hgm, hEl⟩ := hcut
                have Ex1 := Lib.hid (Ex1.out.ext hX)
                have Ex2 := Lib.hid (Ex2.out.ext hX)
                have Ez2 := Lib.hid (Ez2.out.ext hX)
                have Ex3 := Lib.hid (Ex3.out.ext hX)
                have Ez3 := Lib.hid (Ez3.out.ext hX)
                have EA := Lib.hid (EA.out.ext hX)
                have EAA := Lib.hid (EAA.out.ext hX)
                have EBb := Lib.hid (EBb.out.ext hX)
                have EBB := Lib.hid (EBB.out.ext hX)
                have EEe := Lib.hid (EEe.out.ext hX)
                have EDA := Lib.hid (EDA.out.ext hX)
                have ECB := Lib.hid (ECB.out.ext hX)
                have ES := Lib.hid (ES.out.ext hX)
                have EDd := Lib.hid (EDd.out.ext hX)
                have HK := Lib.hid (ext_blk HK.out hX)
                have HR := Lib.hid (ext_blk HR.out hX)
                have HE := Lib.hid (HE.out.trans hX)
                have Ex1 := Lib.hid (Ex1.out.grown hgm (by have := HO.out; simp; omega))
                have Ex2 := Lib.hid (Ex2.out.grown hgm (by have := HO.out; simp; omega))
                have Ex3 := Lib.hid (Ex3.out.grown hgm (by have := HO.out; simp; omega))
                have Ez3 := Lib.hid (Ez3.out.grown hgm (by have := HO.out; simp; omega))
                have EA := Lib.hid (EA.out.grown hgm (by have := HO.out; simp; omega))
                have EAA := Lib.hid (EAA.out.grown hgm (by have := HO.out; simp; omega))
                have EBb := Lib.hid (EBb.out.grown hgm (by have := HO.out; simp; omega))
                have EBB := Lib.hid (EBB.out.grown hgm (by have := HO.out; simp; omega))
                have EEe := Lib.hid (EEe.out.grown hgm (by have := HO.out; simp; omega))
                have EDA := Lib.hid (EDA.out.grown hgm (by have := HO.out; simp; omega))
                have ECB := Lib.hid (ECB.out.grown hgm (by have := HO.out; simp; omega))
                have ES := Lib.hid (ES.out.grown hgm (by have := HO.out; simp; omega))
                have EDd := Lib.hid (EDd.out.grown hgm (by have := HO.out; simp; omega))
                have HK := Lib.hid (HK.out.grown hgm (by have := HO.out; simp; omega))
                have HR := Lib.hid (HR.out.grown hgm (by have := HO.out; simp; omega))
                have HE := Lib.hid (ext_grown HE.out hgm (by have := HO.out; omega))
                have Ez2 := Lib.hid hEl
                clear hEl hX hgm
                generalize wc = wl22 at *
                go_wp2_with fail
                go_roundw
                case rel => exact ⟨k + 1, by omega, by go_num, Ex1.out, (by rw [HG.out]; exact Ex2.out), (by rw [HG.out]; have h := Ez2.out; rw [fp_lit] at h; exact h), (by rw [HG.out]; exact Ex3.out), (by rw [HG.out]; exact Ez3.out), HK.out, HR.out, HE.out⟩
                case measure => simp [intOf]; omega
    · have hk' : k = 255 := by omega
      subst hk'
      have HF : Hid (nbF (s.x2 * fi s.z2) = ladB kb ub) := Lib.hid (by rw [hs, HXF.out, HME.out, HCE.out]; rfl)
      clear hs
      go_wp2_with fail
      obtain ⟨zx2, lx2, bx2, ex2⟩ := Ex2.out
      have Hbx2 := Lib.hid bx2
      have Hex2 := Lib.hid ex2
      have Hlx2 := Lib.hid lx2
      have Hix2 := Lib.hid (el_size lx2)
      clear bx2 ex2 lx2
      obtain ⟨zz2, lz2, bz2, ez2⟩ := Ez2.out
      have Hbz2 := Lib.hid bz2
      have Hez2 := Lib.hid ez2
      have Hlz2 := Lib.hid lz2
      have Hiz2 := Lib.hid (el_size lz2)
      clear bz2 ez2 lz2
      have B0 : Ext wr wr.drew := Ext.drew _
      refine wp_region_held_drew (S := fun w' => Far (A + 1 + 1) wr w') (by kernel_rfl) (fars_ext B0) (fun hHeld => ?_)
      refine wpAnyH_take (i := 0) (v := .agg (ints .i64 zx2).toArray) rfl (by kernel_rfl) (by kernel_rfl) (by kernel_rfl) (fun _ _ _ h => h) (yieldsIf_load_mid (by rfl) _ _ rfl Tx2 0 rfl _ _ (fun w h => fars_range Hbx2.out (by have := HO.out; omega) h) Try.underlying48 rfl Hix2.out) hHeld ?_
      simp only [Act.put, List.getElem_toArray, List.getElem_cons_zero, List.getElem_cons_succ, List.setIfInBounds_toArray, List.set_cons_zero, List.set_cons_succ]
      refine wpAnyH_take (i := 1) (v := .agg (ints .i64 zz2).toArray) rfl (by kernel_rfl) (by kernel_rfl) (by kernel_rfl) (fun _ _ _ h => h) (yieldsIf_load_mid (by rfl) _ _ rfl Tz2 0 rfl _ _ (fun w h => fars_range Hbz2.out (by have := HO.out; omega) h) Try.underlying48 rfl Hiz2.out) hHeld ?_
      simp only [Act.put, List.getElem_toArray, List.getElem_cons_zero, List.getElem_cons_succ, List.setIfInBounds_toArray, List.set_cons_zero, List.set_cons_succ]
      refine wpAnyH_ready (rs := [2]) (by kernel_rfl) (by simp) (AllReadyH.cons rfl (fun K hK => ?_) AllReadyH.nil)
      go_simp
      refine (rinv_f _ Hez2.out).mono ?_
      rintro e m1 ⟨v1, rfl, e1, b1⟩
      obtain ⟨z1, hz1, l1⟩ := e1.form
      subst hz1
      have N1 : Ext wr m1 := B0.trans b1
      refine hK.out _ _ (fars_ext N1) (fun hHeld => ?_)
      clear hK K
      try simp only [Act.put, List.getElem_toArray, List.getElem_cons_zero, List.getElem_cons_succ, List.setIfInBounds_toArray, List.set_cons_zero, List.set_cons_succ]
      refine wpAnyH_ready (rs := [3]) (by kernel_rfl) (by simp) (AllReadyH.cons rfl (fun K hK => ?_) AllReadyH.nil)
      go_simp
      refine (rmul_f _ Hex2.out e1).mono ?_
      rintro e m2 ⟨v2, rfl, e2, b2⟩
      obtain ⟨z2, hz2, l2⟩ := e2.form
      subst hz2
      have N2 : Ext wr m2 := N1.trans b2
      refine hK.out _ _ (fars_ext N2) (fun hHeld => ?_)
      clear hK K
      try simp only [Act.put, List.getElem_toArray, List.getElem_cons_zero, List.getElem_cons_succ, List.setIfInBounds_toArray, List.set_cons_zero, List.set_cons_succ]
      refine wpAnyH_ready (rs := [4]) (by kernel_rfl) (by simp) (AllReadyH.cons rfl (fun K hK => ?_) AllReadyH.nil)
      go_simp
      refine (rout_f _ e2).mono ?_
      rintro e m3 ⟨rfl, b3⟩
      have N3 : Ext wr m3 := N2.trans b3
      refine hK.out _ _ (fars_ext N3) (fun hHeld => ?_)
      clear hK K
      try simp only [Act.put, List.getElem_toArray, List.getElem_cons_zero, List.getElem_cons_succ, List.setIfInBounds_toArray, List.set_cons_zero, List.set_cons_succ]
      refine wpAnyH_ready (rs := [5]) (by kernel_rfl) (by simp) (AllReadyH.cons rfl (fun K hK => ?_) AllReadyH.nil)
      refine step_wp (by rfl) ?_
      refine wp_store_blk _ _ _ rfl (A + 1 + 1) ((nbF (s.x2 * fi s.z2)).map bval) rfl rfl _ _ (ext_blk HR.out N3) (by rw [List.length_map, nbF_length, ints_length]; rfl) (num_size (nbF_length _)) (bval_one _) ?_
      intro m4 hb4 hg4
      refine hK.out _ _ (fars_put N3 hg4) (fun hHeld => ?_)
      clear hK K
      try simp only [Act.put, List.getElem_toArray, List.getElem_cons_zero, List.getElem_cons_succ, List.setIfInBounds_toArray, List.set_cons_zero, List.set_cons_succ]
      refine wpAnyH_done (by kernel_rfl) ?_ _
      go_wp2_with fail
      refine bodyPost_ret (result_blk rfl _ (A + 1 + 1) _ _ _ _ rfl hb4 Try.underlying23 (num_size (nbF_length _))) rfl ?_
      exact ⟨by rw [HF.out], ext_grown (HE.out.trans N3) hg4 (by have := HO.out; omega)⟩

end Go.Proofs.Ytdjdalaghfknoaa
