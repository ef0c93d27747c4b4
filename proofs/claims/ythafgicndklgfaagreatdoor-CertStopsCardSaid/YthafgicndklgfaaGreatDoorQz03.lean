/- Texts that belong together, one behind the other. -/
import Derived.Test.YthafgicndklgfaaGreatDoorRows
import Derived.Test.YthafgicndklgfaaGreatDoorQz02
namespace Go.Proofs.YthafgicndklgfaaGreatDoor
set_option linter.unusedVariables false
set_option maxRecDepth 100000
set_option maxHeartbeats 32000000
set_option linter.unusedSimpArgs false
open Go.RowKit
def GlobT (w : World) : Prop := w.rangeAt 8 0 (ints .i64 TAIL)
theorem GlobT.ext {w w' : World} (h : GlobT w) (hb : Ext w w') : GlobT w' := zfn h hb
theorem Tryz.arr180 : (Tryz.prog.info? 180).map (·.size) = some 5 := by kernel_rfl
theorem tail_index (m : Nat) (hm : m < 5) (w : World) : (Instr.index 180 (.agg (ints .i64 TAIL).toArray) (.int .i64 (m : Int))).run Tryz.prog w = .ok (.int .i64 (TAIL.getD m 0)) w := by
 rcases (by omega : m = 0 ∨ m = 1 ∨ m = 2 ∨ m = 3 ∨ m = 4) with rfl | rfl | rfl | rfl | rfl <;> kernel_rfl
theorem sgn_shift (a : Int) (h1 : -1 ≤ a) (h2 : a ≤ 268435456) : ∃ ng : Int, a / 9223372036854775808 = ng ∧ ∀ t : Int, 0 ≤ t → t ≤ 268435456 → bits .and .i64 ng t = (if a < 0 then 1 else 0) * t := by
 by_cases h : a < 0
 ·refine ⟨-1, by omega, fun t t0 t1 => ?_⟩
  have e : BitVec.ofInt 64 (-1) = BitVec.allOnes 64 := by decide
  show IntKind.i64.wrap ((BitVec.ofInt 64 (-1) &&& BitVec.ofInt 64 t).toNat : Nat) = _
  rw [e, BitVec.allOnes_and, BitVec.toNat_ofInt, IntKind.wrap_i64, if_pos h]
  omega
 ·refine ⟨0, by omega, fun t t0 t1 => ?_⟩
  have e : BitVec.ofInt 64 0 = 0#64 := by decide
  show IntKind.i64.wrap ((BitVec.ofInt 64 0 &&& BitVec.ofInt 64 t).toNat : Nat) = _
  rw [e, BitVec.zero_and, if_neg h]
  simp [IntKind.wrap_i64]
theorem rest_any (x : List Int) (v : Int) (w : World) (h : RI x 18 v) (hG : GlobT w) :
  Calls Tryz.prog 129 #[.agg (ints .i64 x).toArray] w fun e w' => e = .returned (.agg (ints .i64 (restF x)).toArray) ∧ Below w.heap.size w w' := by
 have HRI := jh (fun n hn => rRun_RI h n hn)
 have HG := jh hG
 have HL := jh h.len
 have HB := jh (boxes2 w (ints .i64 x) (ints .i64 (List.replicate 19 0)) 127 127)
 have HTI : Hid ((Tryz.prog.info? 180).map (·.size) = some (ints .i64 TAIL).length) := jh (by rw [zac]; exact Tryz.arr180)
 clear h hG
 go_enter Tryz.func129, Tryz.ntmps129
 go_wp2_with fail
 change Code.wp _ _ _ _ ((w.alloc (.cells (ints .i64 x).toArray 127)).alloc (.cells (ints .i64 (List.replicate 19 0)).toArray 127))
 generalize (w.alloc (.cells (ints .i64 x).toArray 127)).alloc (.cells (ints .i64 (List.replicate 19 0)).toArray 127) = w0 at *
 obtain ⟨b1, b2, b3⟩ := HB.out
 obtain ⟨A, hA⟩ : ∃ A, A = w.heap.size := ⟨_, rfl⟩
 rw [← hA] at b1 b2 ⊢
 have hA2 : w.heap.size ≤ A := by omega
 have H1 := jh b1
 have H2 := jh b2
 have H3 : Hid (Ext w w0) := jh b3
 clear b1 b2 b3 hA HB
 go_loopw [3] (fun i wr => ∃ (n : Nat), n ≤ 10 ∧ i = .int .i64 (18 - (n : Int)) ∧ Blk wr A (ints .i64 (zex x n)) 127 ∧ Blk wr (A + 1) (ints .i64 (List.replicate 19 0)) 127 ∧ Ext w wr) (fun i _ => (intOf i).toNat)
 case atStart => exact ⟨0, by omega, rfl, H1.out, H2.out, H3.out⟩
 case round =>
  clear H1 H2 H3
  obtain ⟨n, hn, rfl, hb1, hb2, hbel⟩ := hrel
  by_cases hlt : n < 10
  ·have hi : ∃ i : Nat, i = 18 - n := ⟨_, rfl⟩
   obtain ⟨i, hi⟩ := hi
   have hii : (18 : Int) - (n : Int) = (i : Int) := by omega
   have i9 : (9 : Int) ≤ (i : Int) := by omega
   have i18 : (i : Int) ≤ 18 := by omega
   have j9 : 9 ≤ i := by omega
   have j18 : i ≤ 18 := by omega
   have hri := HRI.out n (by omega)
   rw [← hi] at hri
   have hst : zex x (n + 1) = rStep (zex x n) i := by rw [hi]; rfl
   rw [hii]
   generalize zex x n = y at *
   have HRS := jh hri
   have HST := jh hst
   have HYL := jh hri.len
   have HII := jh hii
   have HIN := jh hi
   have H1 := jh hb1
   have H2 := jh hb2
   have H3 := jh hbel
   have HGR : Hid (wr.rangeAt 8 0 (ints .i64 TAIL)) := jh (HG.out.ext hbel)
   clear hri hst hb1 hb2 hbel hii hi
   go_wp2_with (refine wpList_load_mid rfl _ _ rfl 8 0 rfl (ints .i64 TAIL) _ HGR.out Tryz.underlying180 rfl HTI.out ?_)
   obtain ⟨wo, rfl⟩ : ∃ wo : World, wo = wr := ⟨_, rfl⟩
   go_loopw [14] (fun j wr => ∃ (m : Nat), m ≤ 5 ∧ j = .int .i64 m ∧ Blk wr A (ints .i64 (zby y i m)) 127 ∧ Blk wr (A + 1) (ints .i64 (List.replicate 19 0)) 127 ∧ Ext w wr) (fun j _ => 5 - (intOf j).toNat)
   case atStart => exact ⟨0, by omega, rfl, H1.out, H2.out, H3.out⟩
   case round =>
    clear H1 H2 H3 HGR
    obtain ⟨m, hm, rfl, hb1, hb2, hbel⟩ := hrel
    have m0 : (0 : Int) ≤ (m : Int) := Int.natCast_nonneg _
    have hlen := zec y i m
    rw [HYL.out] at hlen
    by_cases hlm : m < 5
    ·have m1 : (m : Int) < 5 := by omega
     have HIX := tail_index m hlm
     have e1 := hb1.cell (i - 9 + m)
     rw [zav (by omega)] at e1
     have e2 := hb1.cell i
     rw [zav (by omega)] at e2
     have f1 := hb1.free (i - 9 + m)
     have hst : zby y i (m + 1) = (zby y i m).set (i - 9 + m) ((zby y i m).getD (i - 9 + m) 0 - (zby y i m).getD i 0 * TAIL.getD m 0) := rfl
     have HST2 := jh hst
     have q1 := HRS.out.here
     rw [← tRun_top y i j9 m (by omega)] at q1
     have q2 := HRS.out.low (i - 9 + m) (by omega)
     rw [← tRun_far y i m (i - 9 + m) (by omega)] at q2
     have q3 := TAIL_getD m
     generalize (zby y i m).getD (i - 9 + m) 0 = a at *
     generalize (zby y i m).getD i 0 = u at *
     generalize TAIL.getD m 0 = t at *
     have p1 : -268435456 ≤ u * t ∧ u * t ≤ 72057594037927936 := by
      constructor
      ·rcases Int.le_total 0 u with g2 | g2
       ·have := Int.mul_nonneg g2 q3.1
        omega
       ·have e1 : u = 0 ∨ u = -1 := by omega
        rcases e1 with rfl | rfl <;> omega
      ·rcases Int.le_total 0 u with g2 | g2
       ·exact Int.le_trans (Int.mul_le_mul q1.2 (show t ≤ 268435456 by omega) q3.1 (by omega)) (by omega)
       ·have : u * t ≤ 0 := Int.mul_nonpos_of_nonpos_of_nonneg g2 q3.1
        omega
     have W1 : Hid (wrap64 (u * t) = u * t) := jh (by rw [← IntWalk.i64_left]; exact IntWalk.i64_in _ (by omega))
     have W2 : Hid (wrap64 (a - u * t) = a - u * t) := jh (by rw [← IntWalk.i64_left]; exact IntWalk.i64_in _ (by omega))
     obtain ⟨p, hp⟩ : ∃ p : Nat, p = i - 9 + m := ⟨_, rfl⟩
     rw [← hp] at e1 f1
     have hpp : (i : Int) - 9 + (m : Int) = (p : Int) := by omega
     have p19 : (p : Int) < 19 := by omega
     have HP := jh hp
     have H1 := jh hb1
     have H2 := jh hb2
     have H3 := jh hbel
     clear hst hp hb1 hb2 hbel hlen
     go_wp2_with fail
     go_region
     go_wp2_with fail
     go_roundw
     case rel =>
      refine ⟨m + 1, by omega, by go_num, ?_, (H2.out.far (by simp) _).drewN 1, (Below.setCell H3.out hA2 _).drew⟩
      rw [HST2.out, ← HP.out, ← zbz]
      exact (H1.out.set p _).drewN 1
     case measure => simp [intOf]; omega
    ·have hm5 : m = 5 := by omega
     subst hm5
     have f1 := hb1.free i
     have e1 := hb1.cell i
     rw [zav (by omega)] at e1
     generalize (zby y i 5).getD i 0 = u at e1
     have hpt := HRS.out.part j9 j18
     have HCA := jh (fun w => zfl ((zby y i 5).set i 0) (i - 9) 8 ((i : Int) - 9) ((i : Int) - 1) 1152921504606846976 (by simp [hlen]) (by omega) (by omega) (by omega) (by omega) (by omega) (fun j _ hj => hpt.1 j (by omega)) w)
     have hb1' := hb1.set i (.int .i64 0)
     rw [zbz] at hb1'
     have hb2' := hb2.far (a := ⟨A, i, none⟩) (by simp) (.int .i64 0)
     have hbel' : Ext w (wr.setCell ⟨A, i, none⟩ (.int .i64 0)) := Below.setCell hbel hA2 _
     have hi1 : Hid ((Tryz.prog.info? 127).map (·.size) = some (ints .i64 ((zby y i 5).set i 0)).length) := jh (by rw [zac, List.length_set, hlen]; exact Tryz.arr127)
     have H1 := jh hb1'
     have H2 := jh hb2'
     have H3 := jh hbel'
     have HLN := jh hlen
     clear hb1 hb2 hbel hb1' hb2' hbel' hpt hlen
     go_wp2_with (refine zae rfl _ _ rfl A rfl _ _ _ _ H1.out Tryz.underlying127 hi1.out ?_)
     refine (HCA.out _).mono ?_
     rintro e w5 ⟨rfl, hb5⟩
     have H1 := jh (zaa H1.out hb5)
     have H2 := jh (zaa H2.out hb5)
     have H3 := jh (H3.out.trans hb5)
     have hi2 : Hid ((Tryz.prog.info? 127).map (·.size) = some (ints .i64 (cRun ((zby y i 5).set i 0) (i - 9) 8)).length) := jh (by rw [zac, zdv, List.length_set, HLN.out]; exact Tryz.arr127)
     have hl2 : Hid ((ints .i64 (cRun ((zby y i 5).set i 0) (i - 9) 8)).length = (ints .i64 ((zby y i 5).set i 0)).length) := jh (by rw [zac, zac, zdv])
     clear hb5 HCA
     go_wp2_with (refine zab rfl _ _ _ rfl A _ rfl rfl _ _ H1.out hl2.out hi2.out (zao _ _) ?_; intro w6 hb6 hg6)
     go_roundw
     case rel =>
      refine ⟨n + 1, by omega, ?_, ?_, H2.out.grown hg6 (by simp), zad H3.out hg6 hA2⟩
      ·have := HII.out
       rw [show (i : Int) - 1 = 18 - ((n + 1 : Nat) : Int) from by omega]
      ·rw [HST.out]
       exact hb6
     case measure => simp [intOf]; omega
  ·have hn10 : n = 10 := by omega
   subst hn10
   have hri := HRI.out 10 (by omega)
   have hrf : restF x = cRun (addQ (zex x 10)) 0 8 := rfl
   generalize zex x 10 = y at *
   obtain ⟨ng, hng, hand⟩ := sgn_shift (y.getD 8 0) (hri.here.1) (hri.here.2)
   change ∀ t : Int, _ → _ → _ = sgn y * t at hand
   have hs01 := sgn_01 y
   have hadd := addQ_range hri
   have had : addQ y = (aRun y (sgn y) 5).set 8 ((aRun y (sgn y) 5).getD 8 0 + sgn y * 268435456) := rfl
   have e8 := hb1.cell 8
   have hlen := hri.len
   rw [zav (by omega)] at e8
   have HRS : Hid (RI y 8 v) := jh hri
   have HAND := jh hand
   have HADD := jh hadd
   have HAD := jh had
   have HRF := jh hrf
   have HYL := jh hlen
   have HS := jh hs01
   generalize sgn y = s at *
   have H1 := jh hb1
   have H2 := jh hb2
   have H3 := jh hbel
   have HGR : Hid (wr.rangeAt 8 0 (ints .i64 TAIL)) := jh (HG.out.ext hbel)
   clear hri hb1 hb2 hbel hrf had hadd hand hlen hs01
   generalize y.getD 8 0 = y8 at *
   go_wp2_with (refine wpList_load_mid rfl _ _ rfl 8 0 rfl (ints .i64 TAIL) _ HGR.out Tryz.underlying180 rfl HTI.out ?_)
   clear e8 hng
   obtain ⟨wo, rfl⟩ : ∃ wo : World, wo = wr := ⟨_, rfl⟩
   go_loopw [44] (fun j wr => ∃ (m : Nat), m ≤ 5 ∧ j = .int .i64 m ∧ Blk wr A (ints .i64 (aRun y s m)) 127 ∧ Blk wr (A + 1) (ints .i64 (List.replicate 19 0)) 127 ∧ Ext w wr) (fun j _ => 5 - (intOf j).toNat)
   case atStart => exact ⟨0, by omega, rfl, H1.out, H2.out, H3.out⟩
   case round =>
    clear H1 H2 H3 HGR
    obtain ⟨m, hm, rfl, hb1, hb2, hbel⟩ := hrel
    have m0 : (0 : Int) ≤ (m : Int) := Int.natCast_nonneg _
    have hlen := zfe y s m
    rw [HYL.out] at hlen
    by_cases hlm : m < 5
    ·have m1 : (m : Int) < 5 := by omega
     have m19 : (m : Int) < 19 := by omega
     have HIX := tail_index m hlm
     have e1 := hb1.cell m
     rw [zav (by omega)] at e1
     have f1 := hb1.free m
     have hst : aRun y s (m + 1) = (aRun y s m).set m ((aRun y s m).getD m 0 + s * TAIL.getD m 0) := rfl
     have q3 := TAIL_getD m
     have HAN := HAND.out (TAIL.getD m 0) q3.1 (by omega)
     have q2 := HRS.out.low m (by omega)
     rw [← aRun_far y s m m (Nat.le_refl _)] at q2
     have q4 : 0 ≤ s * TAIL.getD m 0 ∧ s * TAIL.getD m 0 < 268435456 := by rcases HS.out with h | h <;> rw [h] <;> omega
     have HST2 := jh hst
     generalize (aRun y s m).getD m 0 = a at *
     generalize s * TAIL.getD m 0 = st at *
     generalize TAIL.getD m 0 = t at *
     have H1 := jh hb1
     have H2 := jh hb2
     have H3 := jh hbel
     clear hst hb1 hb2 hbel hlen q3
     go_wp2_with fail
     go_roundw
     case rel =>
      refine ⟨m + 1, by omega, by go_num, ?_, H2.out.far (by simp) _, Below.setCell H3.out hA2 _⟩
      rw [HST2.out, ← zbz]
      exact H1.out.set m _
     case measure => simp [intOf]; omega
    ·have hm5 : m = 5 := by omega
     subst hm5
     have f8 := hb1.free 8
     have e8 := hb1.cell 8
     rw [zav (by omega)] at e8
     have q8 := HRS.out.here
     rw [← aRun_far y s 5 8 (by omega)] at q8
     have HAN := HAND.out 268435456 (by omega) (by omega)
     have q4 : 0 ≤ s * 268435456 ∧ s * 268435456 ≤ 268435456 := by rcases HS.out with h | h <;> rw [h] <;> omega
     have hal : (addQ y).length = 19 := HADD.out.1
     have HCA := jh (fun w => zfl (addQ y) 0 8 0 8 1152921504606846976 hal (by omega) rfl rfl (by omega) (by omega) (fun j _ hj => HADD.out.2.1 j (by omega)) w)
     have hb1' := hb1.set 8 (.int .i64 ((aRun y s 5).getD 8 0 + s * 268435456))
     rw [zbz, ← HAD.out] at hb1'
     have hb2' := hb2.far (a := ⟨A, 8, none⟩) (by simp) (.int .i64 ((aRun y s 5).getD 8 0 + s * 268435456))
     have hbel' : Ext w (wr.setCell ⟨A, 8, none⟩ (.int .i64 ((aRun y s 5).getD 8 0 + s * 268435456))) := Below.setCell hbel hA2 _
     generalize (aRun y s 5).getD 8 0 = a8 at *
     generalize s * 268435456 = st at *
     have hi1 : Hid ((Tryz.prog.info? 127).map (·.size) = some (ints .i64 (addQ y)).length) := jh (by rw [zac, hal]; exact Tryz.arr127)
     have H1 := jh hb1'
     have H2 := jh hb2'
     have H3 := jh hbel'
     have HLN := jh hal
     clear hb1 hb2 hbel hb1' hb2' hbel' hlen hal
     go_wp2_with (refine zae rfl _ _ rfl A rfl _ _ _ _ H1.out Tryz.underlying127 hi1.out ?_)
     refine (HCA.out _).mono ?_
     rintro e w5 ⟨rfl, hb5⟩
     have H2 := jh (zaa H2.out hb5)
     have H3 := jh (H3.out.trans hb5)
     have hi2 : Hid ((Tryz.prog.info? 127).map (·.size) = some (ints .i64 (cRun (addQ y) 0 8)).length) := jh (by rw [zac, zdv, HLN.out]; exact Tryz.arr127)
     have hl2 : Hid ((ints .i64 (cRun (addQ y) 0 8)).length = (ints .i64 (List.replicate 19 0)).length) := jh (by rw [zac, zac, zdv, HLN.out]; rfl)
     clear hb5 HCA
     go_wp2_with (refine zab rfl _ _ _ rfl (A + 1) _ rfl rfl _ _ H2.out hl2.out hi2.out (zao _ _) ?_; intro w6 hb6 hg6)
     exact bodyPost_ret (v := .agg (ints .i64 (cRun (addQ y) 0 8)).toArray) (zay (by rfl) _ (A + 1) _ _ _ (by rfl) hb6 Tryz.underlying127 rfl hi2.out) rfl ⟨by rw [HRF.out], zad H3.out hg6 (by omega)⟩
theorem gTail : Tryz.prog.globalNamed "portcullis/scalar.tail" = some 8 := by kernel_rfl
theorem tTail : (Tryz.prog.globals[8]?).map (·.type) = some 180 := by kernel_rfl
theorem dTail : (Rows.laid_portcullis_scalar_tail : DataW Unit) = .agg (TAIL.map fun z => .lit (.int .i64 z)) := rfl
theorem globT_of {W : World} {L : List (String × DataW Unit)} (hp : (L.all fun x => x.2.handleName?.isNone) = true) (h : laidMetH Tryz.prog L W) (hm : ("portcullis/scalar.tail", Rows.laid_portcullis_scalar_tail) ∈ L) : GlobT W :=
 zcy hp h hm dTail gTail tTail Tryz.underlying180 Tryz.underlying2 (by kernel_rfl) rfl
theorem and_u64_63 (n : Nat) (h1 : 0 < n) (h2 : n < 64) : bits .and .u64 (IntKind.u64.wrap (-(n : Int))) 63 = ((64 - n : Nat) : Int) := by
 have h : (BitVec.ofInt 64 63).toNat = 2 ^ 6 - 1 := by decide
 have key : (BitVec.ofInt 64 (IntKind.u64.wrap (-(n : Int))) &&& BitVec.ofInt 64 63).toNat = ((IntKind.u64.wrap (-(n : Int))) % ((2 ^ 64 : Nat) : Int)).toNat % 2 ^ 6 := by
  rw [BitVec.toNat_and, BitVec.toNat_ofInt, h, Nat.and_two_pow_sub_one_eq_mod]
 show IntKind.u64.wrap ((BitVec.ofInt 64 (IntKind.u64.wrap (-(n : Int))) &&& BitVec.ofInt 64 63).toNat : Nat) = _
 rw [key, IntKind.wrap_u64, IntKind.wrap_u64]
 omega
theorem qi_rotlQ (a : Q64) (n : Nat) : bits .or .u64 (IntKind.u64.wrap (qi a * 2 ^ (64 - n))) (qi a / 2 ^ n) = qi (rotq a n) := by
 rw [qi_shr, qi_shl, qi_or, BitVec.or_comm]
 rfl
theorem rotl_anyQ (x : Q64) (n : Nat) (h1 : 0 < n) (h2 : n < 64) (w : World) : Calls Tryz.prog 145 #[.int .u64 (qi x), .int .i64 (-(n : Int))] w fun e w' => e = .returned (.int .u64 (qi (rotq x n))) ∧ w = w' := by
 have HX := jh (qi_rotlQ x n)
 have hr := qi_range x
 have ha := and_u64_63 n h1 h2
 have n0 : 64 - ((64 - n : Nat) : Int) = (n : Int) := by omega
 have n1 : ((64 - n : Nat) : Int) < 64 := by omega
 generalize qi x = z at *
 generalize 64 - n = m at *
 have hw : IntKind.u64.wrap (64 - (m : Int)) = (n : Int) := by rw [n0, IntKind.wrap_u64]; omega
 go_enter Tryz.func145, Tryz.ntmps145
 go_wp2_with fail
 go_ret
 exact ⟨congrArg (fun v => Ending.returned (.int .u64 v)) (by rw [← HX.out, IntKind.wrap_u64]), rfl⟩
theorem zey (x : Q64) (n : Nat) (h1 : 0 < n) (h2 : n < 64) (w : World) : Calls Tryz.prog 144 #[.int .u64 (qi x), .int .i64 (n : Int)] w fun e w' => e = .returned (.int .u64 (qi (rotq x n))) ∧ w = w' := by
 have HR := jh (rotl_anyQ x n h1 h2 w)
 generalize qi x = z at *
 generalize qi (rotq x n) = r at *
 have hw : IntKind.i64.wrap (-(n : Int)) = -(n : Int) := IntWalk.i64_in _ (by omega)
 go_enter Tryz.func144, Tryz.ntmps144
 go_wp2_with fail
 refine HR.out.mono ?_
 rintro e w' ⟨rfl, rfl⟩
 go_wp2_with fail
 go_ret
 exact ⟨rfl, rfl⟩
theorem sum_anyQ (x : Q64) (a b c : Nat) (a1 : 0 < a) (a2 : a < 64) (b1 : 0 < b) (b2 : b < 64) (c1 : 0 < c) (c2 : c < 64) (w : World) :
  Calls Tryz.prog 139 #[.int .u64 (qi x), .int .i64 (a : Int), .int .i64 (b : Int), .int .i64 (c : Int)] w fun e w' => e = .returned (.int .u64 (qi (rotq x a ^^^ rotq x b ^^^ rotq x c))) ∧ w = w' := by
 have HA := jh (fun w => zey x a a1 a2 w)
 have HB := jh (fun w => zey x b b1 b2 w)
 have HC := jh (fun w => zey x c c1 c2 w)
 have hx : qi (rotq x a ^^^ rotq x b ^^^ rotq x c) = bits .xor .u64 (bits .xor .u64 (qi (rotq x a)) (qi (rotq x b))) (qi (rotq x c)) := by rw [zes, zes]
 rw [hx]
 generalize qi x = z at *
 generalize qi (rotq x a) = ra at *
 generalize qi (rotq x b) = rb at *
 generalize qi (rotq x c) = rc at *
 clear hx
 go_enter Tryz.func139, Tryz.ntmps139
 go_wp2_with fail
 refine (HA.out _).mono ?_
 rintro e w' ⟨rfl, rfl⟩
 go_wp2_with fail
 refine (HB.out _).mono ?_
 rintro e w' ⟨rfl, rfl⟩
 go_wp2_with fail
 refine (HC.out _).mono ?_
 rintro e w' ⟨rfl, rfl⟩
 go_wp2_with fail
 go_ret
 exact ⟨rfl, rfl⟩
theorem sum_extQ (x : Q64) (a b c : Nat) (a1 : 0 < a) (a2 : a < 64) (b1 : 0 < b) (b2 : b < 64) (c1 : 0 < c) (c2 : c < 64) (w : World) :
  Calls Tryz.prog 139 #[.int .u64 (qi x), .int .i64 (a : Int), .int .i64 (b : Int), .int .i64 (c : Int)] w fun e w' => e = .returned (.int .u64 (qi (rotq x a ^^^ rotq x b ^^^ rotq x c))) ∧ Below w.heap.size w w' :=
 (sum_anyQ x a b c a1 a2 b1 b2 c1 c2 w).mono fun _ _ h => ⟨h.1, by obtain ⟨_, rfl⟩ := h; exact Below.refl _ _⟩
section
section
variable {P : Program} {ops : Array Oper} {C : World → Prop} {D : Act → Prop}
theorem det_conv {o : Oper} {rest : List Oper} {a : Act} (src dst : TypeId) (x : Operand) (k k' : IntKind) (n r : Int) (hw : Region.wanted o (yielded ops a.tmps) = true) (ho : o.op = .convert src dst x) (hx : a.eval x = .int k n)
  (hs : (P.underlying src).isSome = true) (hd : P.underlying dst = some (.int k')) (hr : k'.wrap n = r) (next : wpDet P ops C D rest (a.put o.dst (.int k' r))) : wpDet P ops C D (o :: rest) a :=
 zbj _ hw (fun w _ => by
  obtain ⟨u, hu⟩ := Option.isSome_iff_exists.1 hs
  have h : (convert src dst (.int k n)).run P w = .ok (.int k' r) w := by
   simp [convert, run_underlying hu, run_underlying hd, Conv.intToInt, hr]
  unfold execOp
  simp only [ho, hx, Sem.run_bind, h, Result.andThen_ok, Sem.run_pure]) next
theorem zfq {o : Oper} {rest : List Oper} {a : Act} (ty rt : TypeId) (x y : Operand) (k ky : IntKind) (m r : Int) (n : Nat) (hw : Region.wanted o (yielded ops a.tmps) = true) (ho : o.op = .binOp .shl ty x y rt) (hx : a.eval x = .int k m) (hy : a.eval y = .int ky (n : Int)) (hn : n ≤ k.bits)
  (hr : k.wrap (m * 2 ^ n) = r) (next : wpDet P ops C D rest (a.put o.dst (.int k r))) : wpDet P ops C D (o :: rest) a :=
 zbj _ hw (fun w _ => by
  have h3 : ¬ ((n : Int) < 0) := by omega
  have h4 : Op.shift .shl k m ky (n : Int) = pure (.int k r) := by
   unfold Op.shift
   rw [if_neg h3]
   simp only [Int.toNat_natCast, Nat.min_eq_left hn, hr]
  have h5 : binOp .shl ty (.int k m) (.int ky (n : Int)) = Op.shift .shl k m ky (n : Int) := rfl
  unfold execOp
  simp only [ho, hx, hy, h5, h4]
  simp [eqGuard]) next
end
end
theorem shb_or8 (x0 x1 x2 x3 x4 x5 x6 x7 : Nat) (h0 : x0 < 256) (h1 : x1 < 256) (h2 : x2 < 256) (h3 : x3 < 256) (h4 : x4 < 256) (h5 : x5 < 256) (h6 : x6 < 256) (h7 : x7 < 256) :
  bits .or .u64 (bits .or .u64 (bits .or .u64 (bits .or .u64 (bits .or .u64 (bits .or .u64 (bits .or .u64 ((x0 : Int) * 72057594037927936) ((x1 : Int) * 281474976710656)) ((x2 : Int) * 1099511627776)) ((x3 : Int) * 4294967296)) ((x4 : Int) * 16777216)) ((x5 : Int) * 65536)) ((x6 : Int) * 256)) (x7 : Int) = qi (BitVec.ofNat 64 (256 * (256 * (256 * (256 * (256 * (256 * (256 * x0 + x1) + x2) + x3) + x4) + x5) + x6) + x7)) := by
 have a0 : (x0 : Int) * 72057594037927936 = ((72057594037927936 * x0 : Nat) : Int) := by omega
 have a1 : (x1 : Int) * 281474976710656 = ((281474976710656 * x1 : Nat) : Int) := by omega
 have a2 : (x2 : Int) * 1099511627776 = ((1099511627776 * x2 : Nat) : Int) := by omega
 have a3 : (x3 : Int) * 4294967296 = ((4294967296 * x3 : Nat) : Int) := by omega
 have a4 : (x4 : Int) * 16777216 = ((16777216 * x4 : Nat) : Int) := by omega
 have a5 : (x5 : Int) * 65536 = ((65536 * x5 : Nat) : Int) := by omega
 have a6 : (x6 : Int) * 256 = ((256 * x6 : Nat) : Int) := by omega
 have b1 : 72057594037927936 * x0 ||| 281474976710656 * x1 = 72057594037927936 * x0 + 281474976710656 * x1 := by
  have h := or_sum 56 (281474976710656 * x1) (x0) (by omega)
  have e : 2 ^ 56 * (x0) = 72057594037927936 * x0 := by omega
  rwa [e] at h
 have b2 : 72057594037927936 * x0 + 281474976710656 * x1 ||| 1099511627776 * x2 = 72057594037927936 * x0 + 281474976710656 * x1 + 1099511627776 * x2 := by
  have h := or_sum 48 (1099511627776 * x2) (256 * x0 + x1) (by omega)
  have e : 2 ^ 48 * (256 * x0 + x1) = 72057594037927936 * x0 + 281474976710656 * x1 := by omega
  rwa [e] at h
 have b3 : 72057594037927936 * x0 + 281474976710656 * x1 + 1099511627776 * x2 ||| 4294967296 * x3 = 72057594037927936 * x0 + 281474976710656 * x1 + 1099511627776 * x2 + 4294967296 * x3 := by
  have h := or_sum 40 (4294967296 * x3) (256 * (256 * x0 + x1) + x2) (by omega)
  have e : 2 ^ 40 * (256 * (256 * x0 + x1) + x2) = 72057594037927936 * x0 + 281474976710656 * x1 + 1099511627776 * x2 := by omega
  rwa [e] at h
 have b4 : 72057594037927936 * x0 + 281474976710656 * x1 + 1099511627776 * x2 + 4294967296 * x3 ||| 16777216 * x4 = 72057594037927936 * x0 + 281474976710656 * x1 + 1099511627776 * x2 + 4294967296 * x3 + 16777216 * x4 := by
  have h := or_sum 32 (16777216 * x4) (256 * (256 * (256 * x0 + x1) + x2) + x3) (by omega)
  have e : 2 ^ 32 * (256 * (256 * (256 * x0 + x1) + x2) + x3) = 72057594037927936 * x0 + 281474976710656 * x1 + 1099511627776 * x2 + 4294967296 * x3 := by omega
  rwa [e] at h
 have b5 : 72057594037927936 * x0 + 281474976710656 * x1 + 1099511627776 * x2 + 4294967296 * x3 + 16777216 * x4 ||| 65536 * x5 = 72057594037927936 * x0 + 281474976710656 * x1 + 1099511627776 * x2 + 4294967296 * x3 + 16777216 * x4 + 65536 * x5 := by
  have h := or_sum 24 (65536 * x5) (256 * (256 * (256 * (256 * x0 + x1) + x2) + x3) + x4) (by omega)
  have e : 2 ^ 24 * (256 * (256 * (256 * (256 * x0 + x1) + x2) + x3) + x4) = 72057594037927936 * x0 + 281474976710656 * x1 + 1099511627776 * x2 + 4294967296 * x3 + 16777216 * x4 := by omega
  rwa [e] at h
 have b6 : 72057594037927936 * x0 + 281474976710656 * x1 + 1099511627776 * x2 + 4294967296 * x3 + 16777216 * x4 + 65536 * x5 ||| 256 * x6 = 72057594037927936 * x0 + 281474976710656 * x1 + 1099511627776 * x2 + 4294967296 * x3 + 16777216 * x4 + 65536 * x5 + 256 * x6 := by
  have h := or_sum 16 (256 * x6) (256 * (256 * (256 * (256 * (256 * x0 + x1) + x2) + x3) + x4) + x5) (by omega)
  have e : 2 ^ 16 * (256 * (256 * (256 * (256 * (256 * x0 + x1) + x2) + x3) + x4) + x5) = 72057594037927936 * x0 + 281474976710656 * x1 + 1099511627776 * x2 + 4294967296 * x3 + 16777216 * x4 + 65536 * x5 := by omega
  rwa [e] at h
 have b7 : 72057594037927936 * x0 + 281474976710656 * x1 + 1099511627776 * x2 + 4294967296 * x3 + 16777216 * x4 + 65536 * x5 + 256 * x6 ||| x7 = 72057594037927936 * x0 + 281474976710656 * x1 + 1099511627776 * x2 + 4294967296 * x3 + 16777216 * x4 + 65536 * x5 + 256 * x6 + x7 := by
  have h := or_sum 8 (x7) (256 * (256 * (256 * (256 * (256 * (256 * x0 + x1) + x2) + x3) + x4) + x5) + x6) (by omega)
  have e : 2 ^ 8 * (256 * (256 * (256 * (256 * (256 * (256 * x0 + x1) + x2) + x3) + x4) + x5) + x6) = 72057594037927936 * x0 + 281474976710656 * x1 + 1099511627776 * x2 + 4294967296 * x3 + 16777216 * x4 + 65536 * x5 + 256 * x6 := by omega
  rwa [e] at h
 have e : 256 * (256 * (256 * (256 * (256 * (256 * (256 * x0 + x1) + x2) + x3) + x4) + x5) + x6) + x7 = 72057594037927936 * x0 + 281474976710656 * x1 + 1099511627776 * x2 + 4294967296 * x3 + 16777216 * x4 + 65536 * x5 + 256 * x6 + x7 := by omega
 rw [a0, a1, a2, a3, a4, a5, a6, or64 _ _ (by omega) (by omega), b1, or64 _ _ (by omega) (by omega), b2, or64 _ _ (by omega) (by omega), b3, or64 _ _ (by omega) (by omega), b4, or64 _ _ (by omega) (by omega), b5, or64 _ _ (by omega) (by omega), b6, or64 _ _ (by omega) (by omega), b7, e, qi_lit _ (by omega)]
/-- A word is read off eight bytes of a block. -/
theorem word_anyQ (c off len cap : Nat) (cs : List UInt8) (t : TypeId) (w : World) (hb : Blk w c (cs.map bval) t) (hl : off + 8 ≤ cs.length) (h4 : 8 ≤ len) :
  Calls Tryz.prog 143 #[.slice (some ⟨c, off, none⟩) len cap] w fun e w' => e = .returned (.int .u64 (qi (beQ cs off))) ∧ Below w.heap.size w w' := by
 have cc : ∀ j, j ≤ 7 → w.cell? ⟨c, off + j, none⟩ = some (.int .u8 ((cs.getD (off + j) 0).toNat : Int)) := fun j hj => by
  rw [hb.cell, zbu (by omega)]
 have c0 := cc 0 (by omega)
 have c1 := cc 1 (by omega)
 have c2 := cc 2 (by omega)
 have c3 := cc 3 (by omega)
 have c4 := cc 4 (by omega)
 have c5 := cc 5 (by omega)
 have c6 := cc 6 (by omega)
 have c7 := cc 7 (by omega)
 have d0 := UInt8.toNat_lt (cs.getD (off + 0) 0)
 have d1 := UInt8.toNat_lt (cs.getD (off + 1) 0)
 have d2 := UInt8.toNat_lt (cs.getD (off + 2) 0)
 have d3 := UInt8.toNat_lt (cs.getD (off + 3) 0)
 have d4 := UInt8.toNat_lt (cs.getD (off + 4) 0)
 have d5 := UInt8.toNat_lt (cs.getD (off + 5) 0)
 have d6 := UInt8.toNat_lt (cs.getD (off + 6) 0)
 have d7 := UInt8.toNat_lt (cs.getD (off + 7) 0)
 have HBE : Hid (beQ cs off = BitVec.ofNat 64 (256 * (256 * (256 * (256 * (256 * (256 * (256 * (cs.getD (off + 0) 0).toNat + (cs.getD (off + 1) 0).toNat) + (cs.getD (off + 2) 0).toNat) + (cs.getD (off + 3) 0).toNat) + (cs.getD (off + 4) 0).toNat) + (cs.getD (off + 5) 0).toNat) + (cs.getD (off + 6) 0).toNat) + (cs.getD (off + 7) 0).toNat)) := jh (by simp only [beQ, beN, Nat.mul_zero, Nat.zero_add])
 generalize (cs.getD (off + 0) 0).toNat = x0 at *
 generalize (cs.getD (off + 1) 0).toNat = x1 at *
 generalize (cs.getD (off + 2) 0).toNat = x2 at *
 generalize (cs.getD (off + 3) 0).toNat = x3 at *
 generalize (cs.getD (off + 4) 0).toNat = x4 at *
 generalize (cs.getD (off + 5) 0).toNat = x5 at *
 generalize (cs.getD (off + 6) 0).toNat = x6 at *
 generalize (cs.getD (off + 7) 0).toNat = x7 at *
 have hcl : c < w.heap.size := hb.lt
 clear cc hb hl
 have i0 : (0 : Int) < (len : Int) ∧ (1 : Int) < (len : Int) ∧ (2 : Int) < (len : Int) ∧ (3 : Int) < (len : Int) ∧ (4 : Int) < (len : Int) ∧ (5 : Int) < (len : Int) ∧ (6 : Int) < (len : Int) ∧ (7 : Int) < (len : Int) := by omega
 obtain ⟨i0, i1, i2, i3, i4, i5, i6, i7⟩ := i0
 have HC0 : Hid (∀ w' : World, Ext w w' → w'.cell? ⟨c, off + 0, none⟩ = some (.int .u8 (x0 : Int))) := jh (fun w' he => by rw [← c0]; exact he.cell (p := ⟨c, off + 0, none⟩) hcl)
 have HC1 : Hid (∀ w' : World, Ext w w' → w'.cell? ⟨c, off + 1, none⟩ = some (.int .u8 (x1 : Int))) := jh (fun w' he => by rw [← c1]; exact he.cell (p := ⟨c, off + 1, none⟩) hcl)
 have HC2 : Hid (∀ w' : World, Ext w w' → w'.cell? ⟨c, off + 2, none⟩ = some (.int .u8 (x2 : Int))) := jh (fun w' he => by rw [← c2]; exact he.cell (p := ⟨c, off + 2, none⟩) hcl)
 have HC3 : Hid (∀ w' : World, Ext w w' → w'.cell? ⟨c, off + 3, none⟩ = some (.int .u8 (x3 : Int))) := jh (fun w' he => by rw [← c3]; exact he.cell (p := ⟨c, off + 3, none⟩) hcl)
 have HC4 : Hid (∀ w' : World, Ext w w' → w'.cell? ⟨c, off + 4, none⟩ = some (.int .u8 (x4 : Int))) := jh (fun w' he => by rw [← c4]; exact he.cell (p := ⟨c, off + 4, none⟩) hcl)
 have HC5 : Hid (∀ w' : World, Ext w w' → w'.cell? ⟨c, off + 5, none⟩ = some (.int .u8 (x5 : Int))) := jh (fun w' he => by rw [← c5]; exact he.cell (p := ⟨c, off + 5, none⟩) hcl)
 have HC6 : Hid (∀ w' : World, Ext w w' → w'.cell? ⟨c, off + 6, none⟩ = some (.int .u8 (x6 : Int))) := jh (fun w' he => by rw [← c6]; exact he.cell (p := ⟨c, off + 6, none⟩) hcl)
 have HC7 : Hid (∀ w' : World, Ext w w' → w'.cell? ⟨c, off + 7, none⟩ = some (.int .u8 (x7 : Int))) := jh (fun w' he => by rw [← c7]; exact he.cell (p := ⟨c, off + 7, none⟩) hcl)
 clear c0 c1 c2 c3 c4 c5 c6 c7
 go_enter Tryz.func143, Tryz.ntmps143
 go_wp2_with fail
 refine zbm (by kernel_rfl) (by kernel_rfl) ?_
 refine zbc _ (.slice (some ⟨c, off, none⟩) len cap) (by rfl) rfl rfl ?_
 simp only [Act.put, nrm]
 refine zfi _ _ _ _ c off len cap 0 (by rfl) rfl rfl rfl Tryz.underlying46 (by omega) Tryz.sizeOf5 ?_
 simp only [Act.put, nrm]
 refine zaq _ _ c (off + 0) (.int .u8 (x0 : Int)) (by rfl) rfl rfl (fun w' hw => HC0.out w' hw) Tryz.isAgg5 ?_
 simp only [Act.put, nrm]
 refine det_conv _ _ _ .u8 .u64 (x0 : Int) (x0 : Int) (by rfl) rfl rfl rfl Tryz.underlying134 (w64 (by omega)) ?_
 simp only [Act.put, nrm]
 refine zfq _ _ _ _ .u64 .u64 (x0 : Int) ((x0 : Int) * 72057594037927936) 56 (by rfl) rfl rfl rfl (by decide) (by rw [IntKind.wrap_u64]; omega) ?_
 simp only [Act.put, nrm]
 refine zbc _ (.slice (some ⟨c, off, none⟩) len cap) (by rfl) rfl rfl ?_
 simp only [Act.put, nrm]
 refine zfi _ _ _ _ c off len cap 1 (by rfl) rfl rfl rfl Tryz.underlying46 (by omega) Tryz.sizeOf5 ?_
 simp only [Act.put, nrm]
 refine zaq _ _ c (off + 1) (.int .u8 (x1 : Int)) (by rfl) rfl rfl (fun w' hw => HC1.out w' hw) Tryz.isAgg5 ?_
 simp only [Act.put, nrm]
 refine det_conv _ _ _ .u8 .u64 (x1 : Int) (x1 : Int) (by rfl) rfl rfl rfl Tryz.underlying134 (w64 (by omega)) ?_
 simp only [Act.put, nrm]
 refine zfq _ _ _ _ .u64 .u64 (x1 : Int) ((x1 : Int) * 281474976710656) 48 (by rfl) rfl rfl rfl (by decide) (by rw [IntKind.wrap_u64]; omega) ?_
 simp only [Act.put, nrm]
 refine det_or _ _ _ _ _ _ _ (bits .or .u64 ((x0 : Int) * 72057594037927936) ((x1 : Int) * 281474976710656)) (by rfl) rfl rfl rfl rfl ?_
 simp only [Act.put, nrm]
 refine zbc _ (.slice (some ⟨c, off, none⟩) len cap) (by rfl) rfl rfl ?_
 simp only [Act.put, nrm]
 refine zfi _ _ _ _ c off len cap 2 (by rfl) rfl rfl rfl Tryz.underlying46 (by omega) Tryz.sizeOf5 ?_
 simp only [Act.put, nrm]
 refine zaq _ _ c (off + 2) (.int .u8 (x2 : Int)) (by rfl) rfl rfl (fun w' hw => HC2.out w' hw) Tryz.isAgg5 ?_
 simp only [Act.put, nrm]
 refine det_conv _ _ _ .u8 .u64 (x2 : Int) (x2 : Int) (by rfl) rfl rfl rfl Tryz.underlying134 (w64 (by omega)) ?_
 simp only [Act.put, nrm]
 refine zfq _ _ _ _ .u64 .u64 (x2 : Int) ((x2 : Int) * 1099511627776) 40 (by rfl) rfl rfl rfl (by decide) (by rw [IntKind.wrap_u64]; omega) ?_
 simp only [Act.put, nrm]
 refine det_or _ _ _ _ _ _ _ (bits .or .u64 (bits .or .u64 ((x0 : Int) * 72057594037927936) ((x1 : Int) * 281474976710656)) ((x2 : Int) * 1099511627776)) (by rfl) rfl rfl rfl rfl ?_
 simp only [Act.put, nrm]
 refine zbc _ (.slice (some ⟨c, off, none⟩) len cap) (by rfl) rfl rfl ?_
 simp only [Act.put, nrm]
 refine zfi _ _ _ _ c off len cap 3 (by rfl) rfl rfl rfl Tryz.underlying46 (by omega) Tryz.sizeOf5 ?_
 simp only [Act.put, nrm]
 refine zaq _ _ c (off + 3) (.int .u8 (x3 : Int)) (by rfl) rfl rfl (fun w' hw => HC3.out w' hw) Tryz.isAgg5 ?_
 simp only [Act.put, nrm]
 refine det_conv _ _ _ .u8 .u64 (x3 : Int) (x3 : Int) (by rfl) rfl rfl rfl Tryz.underlying134 (w64 (by omega)) ?_
 simp only [Act.put, nrm]
 refine zfq _ _ _ _ .u64 .u64 (x3 : Int) ((x3 : Int) * 4294967296) 32 (by rfl) rfl rfl rfl (by decide) (by rw [IntKind.wrap_u64]; omega) ?_
 simp only [Act.put, nrm]
 refine det_or _ _ _ _ _ _ _ (bits .or .u64 (bits .or .u64 (bits .or .u64 ((x0 : Int) * 72057594037927936) ((x1 : Int) * 281474976710656)) ((x2 : Int) * 1099511627776)) ((x3 : Int) * 4294967296)) (by rfl) rfl rfl rfl rfl ?_
 simp only [Act.put, nrm]
 refine zbc _ (.slice (some ⟨c, off, none⟩) len cap) (by rfl) rfl rfl ?_
 simp only [Act.put, nrm]
 refine zfi _ _ _ _ c off len cap 4 (by rfl) rfl rfl rfl Tryz.underlying46 (by omega) Tryz.sizeOf5 ?_
 simp only [Act.put, nrm]
 refine zaq _ _ c (off + 4) (.int .u8 (x4 : Int)) (by rfl) rfl rfl (fun w' hw => HC4.out w' hw) Tryz.isAgg5 ?_
 simp only [Act.put, nrm]
 refine det_conv _ _ _ .u8 .u64 (x4 : Int) (x4 : Int) (by rfl) rfl rfl rfl Tryz.underlying134 (w64 (by omega)) ?_
 simp only [Act.put, nrm]
 refine zfq _ _ _ _ .u64 .u64 (x4 : Int) ((x4 : Int) * 16777216) 24 (by rfl) rfl rfl rfl (by decide) (by rw [IntKind.wrap_u64]; omega) ?_
 simp only [Act.put, nrm]
 refine det_or _ _ _ _ _ _ _ (bits .or .u64 (bits .or .u64 (bits .or .u64 (bits .or .u64 ((x0 : Int) * 72057594037927936) ((x1 : Int) * 281474976710656)) ((x2 : Int) * 1099511627776)) ((x3 : Int) * 4294967296)) ((x4 : Int) * 16777216)) (by rfl) rfl rfl rfl rfl ?_
 simp only [Act.put, nrm]
 refine zbc _ (.slice (some ⟨c, off, none⟩) len cap) (by rfl) rfl rfl ?_
 simp only [Act.put, nrm]
 refine zfi _ _ _ _ c off len cap 5 (by rfl) rfl rfl rfl Tryz.underlying46 (by omega) Tryz.sizeOf5 ?_
 simp only [Act.put, nrm]
 refine zaq _ _ c (off + 5) (.int .u8 (x5 : Int)) (by rfl) rfl rfl (fun w' hw => HC5.out w' hw) Tryz.isAgg5 ?_
 simp only [Act.put, nrm]
 refine det_conv _ _ _ .u8 .u64 (x5 : Int) (x5 : Int) (by rfl) rfl rfl rfl Tryz.underlying134 (w64 (by omega)) ?_
 simp only [Act.put, nrm]
 refine zfq _ _ _ _ .u64 .u64 (x5 : Int) ((x5 : Int) * 65536) 16 (by rfl) rfl rfl rfl (by decide) (by rw [IntKind.wrap_u64]; omega) ?_
 simp only [Act.put, nrm]
 refine det_or _ _ _ _ _ _ _ (bits .or .u64 (bits .or .u64 (bits .or .u64 (bits .or .u64 (bits .or .u64 ((x0 : Int) * 72057594037927936) ((x1 : Int) * 281474976710656)) ((x2 : Int) * 1099511627776)) ((x3 : Int) * 4294967296)) ((x4 : Int) * 16777216)) ((x5 : Int) * 65536)) (by rfl) rfl rfl rfl rfl ?_
 simp only [Act.put, nrm]
 refine zbc _ (.slice (some ⟨c, off, none⟩) len cap) (by rfl) rfl rfl ?_
 simp only [Act.put, nrm]
 refine zfi _ _ _ _ c off len cap 6 (by rfl) rfl rfl rfl Tryz.underlying46 (by omega) Tryz.sizeOf5 ?_
 simp only [Act.put, nrm]
 refine zaq _ _ c (off + 6) (.int .u8 (x6 : Int)) (by rfl) rfl rfl (fun w' hw => HC6.out w' hw) Tryz.isAgg5 ?_
 simp only [Act.put, nrm]
 refine det_conv _ _ _ .u8 .u64 (x6 : Int) (x6 : Int) (by rfl) rfl rfl rfl Tryz.underlying134 (w64 (by omega)) ?_
 simp only [Act.put, nrm]
 refine zfq _ _ _ _ .u64 .u64 (x6 : Int) ((x6 : Int) * 256) 8 (by rfl) rfl rfl rfl (by decide) (by rw [IntKind.wrap_u64]; omega) ?_
 simp only [Act.put, nrm]
 refine det_or _ _ _ _ _ _ _ (bits .or .u64 (bits .or .u64 (bits .or .u64 (bits .or .u64 (bits .or .u64 (bits .or .u64 ((x0 : Int) * 72057594037927936) ((x1 : Int) * 281474976710656)) ((x2 : Int) * 1099511627776)) ((x3 : Int) * 4294967296)) ((x4 : Int) * 16777216)) ((x5 : Int) * 65536)) ((x6 : Int) * 256)) (by rfl) rfl rfl rfl rfl ?_
 simp only [Act.put, nrm]
 refine zbc _ (.slice (some ⟨c, off, none⟩) len cap) (by rfl) rfl rfl ?_
 simp only [Act.put, nrm]
 refine zfi _ _ _ _ c off len cap 7 (by rfl) rfl rfl rfl Tryz.underlying46 (by omega) Tryz.sizeOf5 ?_
 simp only [Act.put, nrm]
 refine zaq _ _ c (off + 7) (.int .u8 (x7 : Int)) (by rfl) rfl rfl (fun w' hw => HC7.out w' hw) Tryz.isAgg5 ?_
 simp only [Act.put, nrm]
 refine det_conv _ _ _ .u8 .u64 (x7 : Int) (x7 : Int) (by rfl) rfl rfl rfl Tryz.underlying134 (w64 (by omega)) ?_
 simp only [Act.put, nrm]
 refine det_or _ _ _ _ _ _ _ (bits .or .u64 (bits .or .u64 (bits .or .u64 (bits .or .u64 (bits .or .u64 (bits .or .u64 (bits .or .u64 ((x0 : Int) * 72057594037927936) ((x1 : Int) * 281474976710656)) ((x2 : Int) * 1099511627776)) ((x3 : Int) * 4294967296)) ((x4 : Int) * 16777216)) ((x5 : Int) * 65536)) ((x6 : Int) * 256)) (x7 : Int)) (by rfl) rfl rfl rfl rfl ?_
 simp only [Act.put, nrm]
 refine zbs _ (.int .u64 (bits .or .u64 (bits .or .u64 (bits .or .u64 (bits .or .u64 (bits .or .u64 (bits .or .u64 (bits .or .u64 ((x0 : Int) * 72057594037927936) ((x1 : Int) * 281474976710656)) ((x2 : Int) * 1099511627776)) ((x3 : Int) * 4294967296)) ((x4 : Int) * 16777216)) ((x5 : Int) * 65536)) ((x6 : Int) * 256)) (x7 : Int))) (by rfl) rfl rfl ?_
 simp only [Act.put, nrm]
 refine zba (fun w9 hw9 => ?_)
 go_wp2_with fail
 go_ret
 exact ⟨by rw [HBE.out, ← shb_or8 x0 x1 x2 x3 x4 x5 x6 x7 d0 d1 d2 d3 d4 d5 d6 d7]; rfl, hw9⟩
def put8 (cs : List UInt8) (off : Nat) (x : Q64) : List UInt8 := (((((((cs.set off (UInt8.ofNat (x.toNat / 72057594037927936))).set (off + 1) (UInt8.ofNat (x.toNat / 281474976710656))).set (off + 2) (UInt8.ofNat (x.toNat / 1099511627776))).set (off + 3) (UInt8.ofNat (x.toNat / 4294967296))).set (off + 4) (UInt8.ofNat (x.toNat / 16777216))).set (off + 5) (UInt8.ofNat (x.toNat / 65536))).set (off + 6) (UInt8.ofNat (x.toNat / 256))).set (off + 7) (UInt8.ofNat x.toNat)
theorem put8_length (cs : List UInt8) (off : Nat) (x : Q64) : (put8 cs off x).length = cs.length := by simp [put8]
theorem zeh (n : Nat) : bval (UInt8.ofNat n) = .int .u8 ((n : Int) % 256) := by
 unfold bval
 rw [UInt8.toNat_ofNat']
 congr 1
/-- A word is laid over eight bytes of a block. -/
theorem put_anyQ (c off len cap : Nat) (cs : List UInt8) (x : Q64) (t : TypeId) (w : World) (hb : Blk w c (cs.map bval) t) (hl : off + 8 ≤ cs.length) (h4 : 8 ≤ len) :
  Calls Tryz.prog 140 #[.slice (some ⟨c, off, none⟩) len cap, .int .u64 (qi x)] w fun e w' => e = .returned (.tuple #[]) ∧ Blk w' c ((put8 cs off x).map bval) t ∧ w.grownBy w' (some c) := by
 have cc : ∀ j, j ≤ 7 → w.cell? ⟨c, off + j, none⟩ = some (.int .u8 ((cs.getD (off + j) 0).toNat : Int)) := fun j hj => by
  rw [hb.cell, zbu (by omega)]
 have ff : ∀ j, w.frozen? ⟨c, off + j, none⟩ = false := fun j => hb.free _
 have c0 := cc 0 (by omega)
 have c1 := cc 1 (by omega)
 have c2 := cc 2 (by omega)
 have c3 := cc 3 (by omega)
 have c4 := cc 4 (by omega)
 have c5 := cc 5 (by omega)
 have c6 := cc 6 (by omega)
 have c7 := cc 7 (by omega)
 have f0 := ff 0
 have f1 := ff 1
 have f2 := ff 2
 have f3 := ff 3
 have f4 := ff 4
 have f5 := ff 5
 have f6 := ff 6
 have f7 := ff 7
 simp only [Nat.add_zero] at c0 f0
 generalize (cs.getD off 0).toNat = x0 at *
 generalize (cs.getD (off + 1) 0).toNat = x1 at *
 generalize (cs.getD (off + 2) 0).toNat = x2 at *
 generalize (cs.getD (off + 3) 0).toNat = x3 at *
 generalize (cs.getD (off + 4) 0).toNat = x4 at *
 generalize (cs.getD (off + 5) 0).toNat = x5 at *
 generalize (cs.getD (off + 6) 0).toNat = x6 at *
 generalize (cs.getD (off + 7) 0).toNat = x7 at *
 have HB := jh hb
 have HL := jh hl
 have hr := qi_range x
 have HX : Hid (qi x = (x.toNat : Int)) := jh rfl
 clear cc ff hb hl
 have i0 : (0 : Int) < (len : Int) ∧ (1 : Int) < (len : Int) ∧ (2 : Int) < (len : Int) ∧ (3 : Int) < (len : Int) ∧ (4 : Int) < (len : Int) ∧ (5 : Int) < (len : Int) ∧ (6 : Int) < (len : Int) ∧ (7 : Int) < (len : Int) := by omega
 obtain ⟨i0, i1, i2, i3, i4, i5, i6, i7⟩ := i0
 have b0 : bval (UInt8.ofNat (x.toNat / 72057594037927936)) = .int .u8 (qi x / 72057594037927936) := by rw [zeh]; congr 1; unfold qi; have := x.isLt; omega
 have b1 : bval (UInt8.ofNat (x.toNat / 281474976710656)) = .int .u8 (qi x / 281474976710656 % 256) := by rw [zeh]; congr 1
 have b2 : bval (UInt8.ofNat (x.toNat / 1099511627776)) = .int .u8 (qi x / 1099511627776 % 256) := by rw [zeh]; congr 1
 have b3 : bval (UInt8.ofNat (x.toNat / 4294967296)) = .int .u8 (qi x / 4294967296 % 256) := by rw [zeh]; congr 1
 have b4 : bval (UInt8.ofNat (x.toNat / 16777216)) = .int .u8 (qi x / 16777216 % 256) := by rw [zeh]; congr 1
 have b5 : bval (UInt8.ofNat (x.toNat / 65536)) = .int .u8 (qi x / 65536 % 256) := by rw [zeh]; congr 1
 have b6 : bval (UInt8.ofNat (x.toNat / 256)) = .int .u8 (qi x / 256 % 256) := by rw [zeh]; congr 1
 have b7 : bval (UInt8.ofNat x.toNat) = .int .u8 (qi x % 256) := by rw [zeh]; congr 1
 have hP : (put8 cs off x).map bval = ((((((((cs.map bval).set off (.int .u8 (qi x / 72057594037927936))).set (off + 1) (.int .u8 (qi x / 281474976710656 % 256))).set (off + 2) (.int .u8 (qi x / 1099511627776 % 256))).set (off + 3) (.int .u8 (qi x / 4294967296 % 256))).set (off + 4) (.int .u8 (qi x / 16777216 % 256))).set (off + 5) (.int .u8 (qi x / 65536 % 256))).set (off + 6) (.int .u8 (qi x / 256 % 256))).set (off + 7) (.int .u8 (qi x % 256)) := by
  unfold put8
  rw [List.map_set, List.map_set, List.map_set, List.map_set, List.map_set, List.map_set, List.map_set, List.map_set, b0, b1, b2, b3, b4, b5, b6, b7]
 have HP := jh hP
 clear hP b0 b1 b2 b3 b4 b5 b6 b7
 generalize qi x = z at *
 go_enter Tryz.func140, Tryz.ntmps140
 go_wp2_with fail
 refine bodyPost_end (results_none rfl _ _ _) rfl ?_
 refine ⟨rfl, ?_, ?_⟩
 ·rw [HP.out]
  exact (((((((HB.out.set _ _).set _ _).set _ _).set _ _).set _ _).set _ _).set _ _).set _ _
 ·exact zbp (zbp (zbp (zbp (zbp (zbp (zbp (zbp (zch w _) _ _) _ _) _ _) _ _) _ _) _ _) _ _) _ _
theorem Tryz.arr26 : (Tryz.prog.info? 26).map (·.size) = some 64 := by kernel_rfl
theorem zct {l : List UInt8} (h : l.length = 64) : (Tryz.prog.info? 26).map (·.size) = some (l.map bval).length := by rw [List.length_map, h]; exact Tryz.arr26
theorem Tryz.arr135 : (Tryz.prog.info? 135).map (·.size) = some 8 := by kernel_rfl
theorem Tryz.arr137 : (Tryz.prog.info? 137).map (·.size) = some 80 := by kernel_rfl
def zarr128 : Array Value := (ints .u8 (List.replicate 128 0)).toArray
@[simp] theorem zero_block128 (w : World) : (zeroValue 160).run Tryz.prog w = .ok (.agg zarr128) w := by kernel_rfl
theorem byte_cells : Tryz.prog.cellsOf 5 = 1 := by kernel_rfl
theorem Tryz.arr154 : (Tryz.prog.info? 154).map (·.size) = some 8 := by kernel_rfl
theorem Tryz.arr160 : (Tryz.prog.info? 160).map (·.size) = some 128 := by kernel_rfl
theorem boxes3uQ (w : World) (a b d : List Value) (s t u : TypeId) : Blk (((w.alloc (.cells a.toArray s)).alloc (.cells b.toArray t)).alloc (.cells d.toArray u)) w.heap.size a s ∧ Blk (((w.alloc (.cells a.toArray s)).alloc (.cells b.toArray t)).alloc (.cells d.toArray u)) (w.heap.size + 1) b t ∧
  Blk (((w.alloc (.cells a.toArray s)).alloc (.cells b.toArray t)).alloc (.cells d.toArray u)) (w.heap.size + 1 + 1) d u ∧ Below w.heap.size w (((w.alloc (.cells a.toArray s)).alloc (.cells b.toArray t)).alloc (.cells d.toArray u)) := by
 obtain ⟨h1, h2, h3⟩ := boxes2 w a b s t
 refine ⟨h1.alloc _, h2.alloc _, ?_, Ext.trans h3 (Ext.alloc _ _)⟩
 have := Blk.made ((w.alloc (.cells a.toArray s)).alloc (.cells b.toArray t)) d u
 simpa using this
theorem cut_arrQ {t : TypeId} {n : Nat} {e : TypeId} (ht : Tryz.prog.underlying t = some (.array n e)) (hc : Tryz.prog.cellsOf e = 1) (h : ∀ w, (sizeOf e).run Tryz.prog w = .ok 1 w) (w : World) (A p : Nat) (hp : p < n) :
  (Instr.sliceAt t (.pointer (some ⟨A, 0, none⟩)) (some (.int .i64 (p : Int))) none none).run Tryz.prog w = .ok (.slice (some ⟨A, p, none⟩) (n - p) (n - p)) w := by
 have e1 : Tryz.prog.arrayLen t = n := by unfold Program.arrayLen; rw [ht]
 have e2 : Tryz.prog.elem t = e := by unfold Program.elem; rw [ht]
 rw [run_sliceAt_array_l w t ⟨A, 0, none⟩ (by rw [e1, e2]; exact ht) .i64 (p : Int) (by omega) (by rw [e1]; omega), e2, h, e1]
 simp [slicedAt, Addr.add, show ¬ n = p by omega]
 exact fun h => h.symm
theorem schedule_anyQ (cs : List UInt8) (w : World) (hl : cs.length = 128) :
  Calls Tryz.prog 138 #[.agg (cs.map bval).toArray] w fun e w' => e = .returned (.agg (ints .u64 (qs (qSch cs 0 64))).toArray) ∧ Below w.heap.size w w' := by
 have HL := jh hl
 have HB := jh (boxes3uQ w (cs.map bval) (ints .u64 (List.replicate 80 0)) (ints .u64 (List.replicate 80 0)) 160 137 137)
 clear hl
 go_enter Tryz.func138, Tryz.ntmps138
 go_wp2_with fail
 obtain ⟨H1, H2, H3, HE⟩ := HB.out
 change Code.wp _ _ _ _ (((w.alloc (.cells (cs.map bval).toArray 160)).alloc (.cells (ints .u64 (List.replicate 80 0)).toArray 137)).alloc (.cells (ints .u64 (List.replicate 80 0)).toArray 137))
 generalize (((w.alloc (.cells (cs.map bval).toArray 160)).alloc (.cells (ints .u64 (List.replicate 80 0)).toArray 137)).alloc (.cells (ints .u64 (List.replicate 80 0)).toArray 137)) = w3 at *
 obtain ⟨A, hA⟩ : ∃ A, A = w.heap.size := ⟨_, rfl⟩
 rw [← hA] at H1 H2 H3 ⊢
 have hA2 : w.heap.size ≤ A := by omega
 have H1 := jh H1
 have H2 := jh H2
 have H3 := jh H3
 have HE : Hid (Ext w w3) := jh HE
 clear hA HB
 go_loopw [8] (fun iv wr => ∃ (k : Nat), k ≤ 16 ∧ iv = .int .i64 (k : Int) ∧ Blk wr A (cs.map bval) 160 ∧ Blk wr (A + 1) (ints .u64 (List.replicate 80 0)) 137 ∧ Blk wr (A + 1 + 1) (ints .u64 (qs (qTop cs 0 k))) 137 ∧ Ext w wr) (fun iv _ => 16 - (intOf iv).toNat)
 case atStart => exact ⟨0, by omega, rfl, H1.out, H2.out, by rw [qTop, qs_zeros]; exact H3.out, HE.out⟩
 case round =>
  clear H1 H2 H3 HE
  obtain ⟨k, hk, rfl, hb1, hb2, hb3, hbel⟩ := hrel
  have k0 : (0 : Int) ≤ (k : Int) := Int.natCast_nonneg _
  have hwl := qTop_length cs 0 k
  by_cases hlk : k < 16
  ·have k1 : (k : Int) < 16 := by omega
   have k64 : (k : Int) < 80 := by omega
   have e1 := hb3.cell k
   rw [zav (by rw [zbh]; omega)] at e1
   have f1 := hb3.free k
   generalize (qs (qTop cs 0 k)).getD k 0 = u at e1
   have hs := cut_arrQ Tryz.underlying160 byte_cells Tryz.sizeOf5 wr A (8 * k) (by omega)
   have e4 : ((8 * k : Nat) : Int) = 8 * (k : Int) := by omega
   rw [e4] at hs
   have HB1 := jh hb1
   have HB2 := jh hb2
   have HB3 := jh hb3
   have HE := jh hbel
   have HW := jh (word_anyQ A (8 * k) (128 - 8 * k) (128 - 8 * k) cs 160 wr hb1 (by have := HL.out; omega) (by omega))
   clear hb1 hb2 hb3 hbel e4
   go_wp2_with fail
   refine HW.out.mono ?_
   rintro e w4 ⟨rfl, hb⟩
   have e1 : w4.cell? ⟨A + 1 + 1, k, none⟩ = some (.int .u64 u) := by rw [← e1]; exact hb.cell (p := ⟨A + 1 + 1, k, none⟩) HB3.out.lt
   have HB1 := jh (zaa HB1.out hb)
   have HB2 := jh (zaa HB2.out hb)
   have HB3 := jh (zaa HB3.out hb)
   have HE := jh (HE.out.trans hb)
   have f1 := HB3.out.free k
   clear hb HW
   have HST : Hid (qs (qTop cs 0 (k + 1)) = (qs (qTop cs 0 k)).set k (qi (beQ cs (8 * k)))) := jh (by rw [qs_set, qTop]; simp)
   generalize qi (beQ cs (8 * k)) = z at *
   go_wp2_with fail
   go_roundw
   case rel =>
    refine ⟨k + 1, by omega, by go_num, HB1.out.far (by simp <;> omega) _, HB2.out.far (by simp) _, ?_, Below.setCell HE.out (by simp <;> omega) _⟩
    rw [HST.out]
    exact HB3.out.seti k _
   case measure => simp [intOf]; omega
  ·have hk16 : k = 16 := by omega
   have hk17 : (k : Int) = 16 := by omega
   rw [hk17]
   clear hk17
   subst hk16
   have hw0 : qTop cs 0 16 = qSch cs 0 0 := rfl
   rw [hw0] at hb3
   have H1 := jh hb1
   have H2 := jh hb2
   have H3 := jh hb3
   have HE := jh hbel
   clear hb1 hb2 hb3 hbel hwl hw0
   go_wp2_with fail
   obtain ⟨wo, rfl⟩ : ∃ wo : World, wo = wr := ⟨_, rfl⟩
   go_loopw [5] (fun iv wr => ∃ (q : Nat), q ≤ 64 ∧ iv = .int .i64 ((16 + q : Nat) : Int) ∧ Blk wr (A + 1) (ints .u64 (List.replicate 80 0)) 137 ∧ Blk wr (A + 1 + 1) (ints .u64 (qs (qSch cs 0 q))) 137 ∧ Ext w wr) (fun iv _ => 80 - (intOf iv).toNat)
   case atStart => exact ⟨0, by omega, rfl, H2.out, H3.out, HE.out⟩
   case round =>
    clear H1 H2 H3 HE
    obtain ⟨q, hq, rfl, hb2, hb3, hbel⟩ := hrel
    have hwl := zdr cs 0 q
    by_cases hlq : q < 64
    ·obtain ⟨i, hi⟩ : ∃ i : Nat, i = 16 + q := ⟨_, rfl⟩
     rw [← hi]
     have i0 : (16 : Int) ≤ (i : Int) := by omega
     have i1 : (i : Int) < 80 := by omega
     obtain ⟨j16, hj16⟩ : ∃ j : Nat, j = i - 16 := ⟨_, rfl⟩
     obtain ⟨j15, hj15⟩ : ∃ j : Nat, j = i - 15 := ⟨_, rfl⟩
     obtain ⟨j7, hj7⟩ : ∃ j : Nat, j = i - 7 := ⟨_, rfl⟩
     obtain ⟨j2, hj2⟩ : ∃ j : Nat, j = i - 2 := ⟨_, rfl⟩
     have g16 : (i : Int) - 16 = (j16 : Int) := by omega
     have g15 : (i : Int) - 15 = (j15 : Int) := by omega
     have g7 : (i : Int) - 7 = (j7 : Int) := by omega
     have g2 : (i : Int) - 2 = (j2 : Int) := by omega
     have l16 : (j16 : Int) < 80 := by omega
     have l15 : (j15 : Int) < 80 := by omega
     have l7 : (j7 : Int) < 80 := by omega
     have l2 : (j2 : Int) < 80 := by omega
     have e16 := hb3.cell j16
     rw [zav (by rw [zbh]; omega), zez] at e16
     have e15 := hb3.cell j15
     rw [zav (by rw [zbh]; omega), zez] at e15
     have e7 := hb3.cell j7
     rw [zav (by rw [zbh]; omega), zez] at e7
     have e2 := hb3.cell j2
     rw [zav (by rw [zbh]; omega), zez] at e2
     have e0 := hb3.cell i
     rw [zav (by rw [zbh]; omega), zez] at e0
     have f0 := hb3.free i
     have HST : Hid (qSch cs 0 (q + 1) = (qSch cs 0 q).set i (((qSch cs 0 q).getD j2 0#64 |> tg1) + (qSch cs 0 q).getD j7 0#64 + tg0 ((qSch cs 0 q).getD j15 0#64) + (qSch cs 0 q).getD j16 0#64)) := jh (by
      rw [hi, hj16, hj15, hj7, hj2, hi, qSch, qNext]
      congr 1
      ac_rfl)
     generalize (qSch cs 0 q).getD j16 0#64 = y16 at *
     generalize (qSch cs 0 q).getD j15 0#64 = y15 at *
     generalize (qSch cs 0 q).getD j7 0#64 = y7 at *
     generalize (qSch cs 0 q).getD j2 0#64 = y2 at *
     generalize (qSch cs 0 q).getD i 0#64 = y0 at *
     have T1 := jh (fun w => zey y15 1 (by omega) (by omega) w)
     have T2 := jh (fun w => zey y15 8 (by omega) (by omega) w)
     have T3 := jh (fun w => zey y2 19 (by omega) (by omega) w)
     have T4 := jh (fun w => zey y2 61 (by omega) (by omega) w)
     have HB2 := jh hb2
     have HB3 := jh hb3
     have HE := jh hbel
     have HI := jh hi
     clear hb2 hb3 hbel hwl hi hj16 hj15 hj7 hj2 hq
     go_wp2_with fail
     go_region
     go_wp2_with fail
     refine (T1.out _).mono ?_
     rintro e w' ⟨rfl, rfl⟩
     go_wp2_with fail
     refine (T2.out _).mono ?_
     rintro e w' ⟨rfl, rfl⟩
     go_wp2_with fail
     refine (T3.out _).mono ?_
     rintro e w' ⟨rfl, rfl⟩
     go_wp2_with fail
     refine (T4.out _).mono ?_
     rintro e w' ⟨rfl, rfl⟩
     go_wp2_with fail
     have x1 : bits .xor .u64 (bits .xor .u64 (qi (rotq y15 1)) (qi (rotq y15 8))) (qi y15 / 128) = qi (tg0 y15) := by rw [show (128 : Int) = 2 ^ 7 from rfl, qi_shr, zes, zes]; rfl
     have x2 : bits .xor .u64 (bits .xor .u64 (qi (rotq y2 19)) (qi (rotq y2 61))) (qi y2 / 64) = qi (tg1 y2) := by rw [show (64 : Int) = 2 ^ 6 from rfl, qi_shr, zes, zes]; rfl
     have HX1 := jh x1
     have HX2 := jh x2
     clear x1 x2 T1 T2 T3 T4
     rw [HX1.out, HX2.out]
     have HWS : Hid (IntKind.u64.wrap (IntKind.u64.wrap (IntKind.u64.wrap (qi (tg1 y2) + qi y7) + qi (tg0 y15)) + qi y16) = qi (tg1 y2 + y7 + tg0 y15 + y16)) := jh (by rw [zdh, zdh, zdh])
     go_wp2_with fail
     go_region
     go_wp2_with fail
     go_roundw
     case rel =>
      refine ⟨q + 1, by omega, by have := HI.out; subst this; go_num, (HB2.out.far (by simp) _).drewN 2, ?_, (Below.setCell HE.out (by simp <;> omega) _).drew.drew⟩
      rw [HST.out, ← qs_set, ← HWS.out]
      exact (HB3.out.seti i _).drewN 2
     case measure => simp [intOf]; omega
    ·have hk48 : q = 64 := by omega
     subst hk48
     have H2 := jh hb2
     have H3 := jh hb3
     have HE := jh hbel
     clear hb2 hb3 hbel hwl
     have HIr : Hid ((Tryz.prog.info? 137).map (·.size) = some (ints .u64 (qs (qSch cs 0 64))).length) := jh (by rw [zac, zbh, zdr]; exact Tryz.arr137)
     have HLE : Hid ((ints .u64 (qs (qSch cs 0 64))).length = (ints .u64 (List.replicate 80 0)).length) := jh (by rw [zac, zbh, zdr, zac, List.length_replicate])
     go_wp2_with (first | (refine zae rfl _ _ rfl (A + 1 + 1) rfl _ _ _ _ H3.out Tryz.underlying137 HIr.out ?_) | (refine zab rfl _ _ _ rfl (A + 1) (ints .u64 (qs (qSch cs 0 64))) rfl rfl _ _ H2.out HLE.out HIr.out (zao _ _) ?_; intro w4 hb4 hg4))
     refine bodyPost_ret (zbn rfl _ (A + 1) _ _ _ _ rfl hb4 Tryz.underlying137 HIr.out) rfl ?_
     exact ⟨rfl, zad HE.out hg4 (by omega)⟩
section
theorem blk_q {w : World} {c : Nat} {l : List Q64} {t : TypeId} (h : Blk w c (ints .u64 (qs l)) t) {j : Nat} (hj : j < l.length) : w.cell? ⟨c, j, none⟩ = some (.int .u64 (qi (l.getD j 0#64))) := by
 rw [h.cell, zav (by rw [zbh]; exact hj), zez]
section
variable {P : Program} {ops : Array Oper} {C : World → Prop} {D : Act → Prop}
theorem qi_not (x : Q64) : bits .xor .u64 18446744073709551615 (qi x) = qi (~~~x) := by
 have e : (18446744073709551615 : Int) = qi (BitVec.allOnes 64) := rfl
 rw [e, zes]
 rw [BitVec.allOnes_xor]
theorem det_qinot {o : Oper} {rest : List Oper} {a : Act} (ty : TypeId) (x : Operand) (m : Q64) (hw : Region.wanted o (yielded ops a.tmps) = true) (ho : o.op = .unOp .xor ty x) (hx : a.eval x = .int .u64 (qi m))
  (next : wpDet P ops C D rest (a.put o.dst (.int .u64 (qi (~~~m))))) : wpDet P ops C D (o :: rest) a :=
 zbj _ hw (fun w _ => by
  have e := qi_not m
  have h1 : (Op.intBits .xor .u64 18446744073709551615 (qi m)) = pure (.int .u64 (bits .xor .u64 18446744073709551615 (qi m))) := rfl
  have h2 : Op.unary .xor (.int .u64 (qi m)) = Op.intBits .xor .u64 18446744073709551615 (qi m) := rfl
  unfold execOp
  simp only [ho, hx, h2, h1, e]
  simp) next
end
end
section
section
variable {P : Program} {a : Act} {w : World} {Q : Exit → Act → World → Prop}
theorem Exit.jump_mono {l : Nat} {J J' : Act → World → Prop} (h : ∀ a w, J a w → J' a w) : ∀ {e : Exit} {a : Act} {w : World}, Exit.jump l J Q e a w → Exit.jump l J' Q e a w
 | .goto _, _, _, hh => ⟨hh.1, h _ _ hh.2⟩
 | .normal, _, _, hh => hh
 | .exit _, _, _, hh => hh
 | .ret, _, _, hh => hh
 | .panic _, _, _, hh => hh
 | .outgrown, _, _, hh => hh
theorem wp_scope_back0 {c rest : Code} (l : Nat) (J : Act → World → Prop) (μ : Act → World → Nat) (hf : findLabel c l = some (Code.skip.seq rest))
  (first : (∀ a w, J a w → rest.wp P (Exit.jump l J Q) a w) → c.wp P (Exit.jump l J Q) a w)
  (pass : ∀ a w, J a w → rest.wp P (Exit.jump l (fun a' w' => J a' w' ∧ μ a' w' < μ a w) Q) a w) : (Code.scope c).wp P Q a w :=
 wp_scope_jumps l J μ hf (first fun a w h => Code.wp_mono (fun e a w h => Exit.jump_mono (fun _ _ h => h.1) h) (pass a w h)) fun a w h => wp_seq (wp_skip (pass a w h))
end
end
def mixFQ (h : List Q64) (x : List UInt8) : List Q64 := qAdd h (qRun h (qSch x 0 64) 80) 8
theorem mixF_lengthQ (h : List Q64) (x : List UInt8) : (mixFQ h x).length = h.length := qAdd_length _ _ _
def GlobRQ (w : World) : Prop := w.rangeAt 7 0 (ints .u64 (qs K512))
theorem GlobRQ.ext {w w' : World} (h : GlobRQ w) (hb : Ext w w') : GlobRQ w' := zfn h hb
theorem GlobRQ.cell {w : World} (h : GlobRQ w) {j : Nat} (hj : j < 80) : w.cell? ⟨7, j, none⟩ = some (.int .u64 (qi (K512.getD j 0#64))) := by
 have := h j (.int .u64 (qi (K512.getD j 0#64))) (by rw [zav (by rw [zbh]; exact hj), zez])
 simpa using this
theorem hAdd8Q : ∀ (h v : List Q64), h.length = 8 → v.length = 8 → qAdd h v 8 = [h.getD 0 0#64 + v.getD 0 0#64, h.getD 1 0#64 + v.getD 1 0#64, h.getD 2 0#64 + v.getD 2 0#64, h.getD 3 0#64 + v.getD 3 0#64, h.getD 4 0#64 + v.getD 4 0#64, h.getD 5 0#64 + v.getD 5 0#64, h.getD 6 0#64 + v.getD 6 0#64, h.getD 7 0#64 + v.getD 7 0#64]
 | [_, _, _, _, _, _, _, _], [_, _, _, _, _, _, _, _], _, _ => rfl
def MixJQ (h : List Q64) (cs : List UInt8) (A : Nat) (wb : World) (a : Act) (w : World) : Prop :=
 ∃ k B : Nat, k ≤ 80 ∧ Blk w A (ints .u64 (qs h)) 154 ∧ Blk w (A + 1 + 1) (ints .u64 (List.replicate 8 0)) 154 ∧ Blk w B (ints .u64 (qs (qSch cs 0 64))) 137 ∧ Ext wb w ∧
 ∃ u : Nat → Value, a = { tmps := #[.agg (ints .u64 (qs h)).toArray, .agg (cs.map bval).toArray, .pointer (some ⟨A, 0, none⟩), .pointer (some ⟨A + 1, 0, none⟩), .pointer (some ⟨A + 1 + 1, 0, none⟩), .pointer (some ⟨B, 0, none⟩),
  .int .u64 (qi ((qRun h (qSch cs 0 64) k).getD 0 0#64)), .int .u64 (qi ((qRun h (qSch cs 0 64) k).getD 1 0#64)), .int .u64 (qi ((qRun h (qSch cs 0 64) k).getD 2 0#64)), .int .u64 (qi ((qRun h (qSch cs 0 64) k).getD 3 0#64)), .int .u64 (qi ((qRun h (qSch cs 0 64) k).getD 4 0#64)), .int .u64 (qi ((qRun h (qSch cs 0 64) k).getD 5 0#64)), .int .u64 (qi ((qRun h (qSch cs 0 64) k).getD 6 0#64)), .int .u64 (qi ((qRun h (qSch cs 0 64) k).getD 7 0#64)), .int .i64 (k : Int), u 15, u 16, u 17, u 18, u 19, u 20, u 21, u 22, u 23, u 24, u 25, u 26, u 27, u 28, u 29, u 30, u 31, u 32, u 33, u 34, u 35, u 36, u 37, u 38, u 39, u 40, u 41, u 42, u 43, u 44, u 45, u 46, u 47, u 48, u 49, u 50, u 51, u 52, u 53, u 54, u 55, u 56, u 57, u 58, u 59, u 60, u 61, u 62, u 63, u 64, u 65, u 66, u 67, u 68, u 69, u 70, u 71, u 72, u 73, u 74, u 75, u 76, u 77, u 78, u 79, u 80, u 81, u 82, u 83, u 84, u 85, u 86, u 87, u 88, u 89, u 90, u 91, u 92, u 93, u 94, u 95, u 96, u 97, u 98, u 99, u 100, u 101, u 102, u 103, u 104, u 105, u 106, u 107, u 108, u 109, u 110, u 111, u 112, u 113, u 114, u 115, u 116, u 117, u 118], defers := [] }
theorem mixed_anyQ (h : List Q64) (cs : List UInt8) (w : World) (hh : h.length = 8) (hl : cs.length = 128) (hG : GlobRQ w) :
  Calls Tryz.prog 121 #[.agg (ints .u64 (qs h)).toArray, .agg (cs.map bval).toArray] w fun e w' => e = .returned (.agg (ints .u64 (qs (mixFQ h cs))).toArray) ∧ Below w.heap.size w w' := by
 have HL := jh hl
 have HH := jh hh
 have HG := jh hG
 have HB := jh (boxes3uQ w (ints .u64 (qs h)) (cs.map bval) (ints .u64 (List.replicate 8 0)) 154 160 154)
 have HIr : Hid ((Tryz.prog.info? 160).map (·.size) = some (cs.map bval).length) := jh (by rw [List.length_map, hl]; exact Tryz.arr160)
 clear hl hh hG
 go_enter Tryz.func121, Tryz.ntmps121
 go_upto_region 1 with (fail)
 obtain ⟨H1, H2, H3, HE⟩ := HB.out
 change Code.wp _ _ _ _ (((w.alloc (.cells (ints .u64 (qs h)).toArray 154)).alloc (.cells (cs.map bval).toArray 160)).alloc (.cells (ints .u64 (List.replicate 8 0)).toArray 154))
 generalize (((w.alloc (.cells (ints .u64 (qs h)).toArray 154)).alloc (.cells (cs.map bval).toArray 160)).alloc (.cells (ints .u64 (List.replicate 8 0)).toArray 154)) = w3 at *
 obtain ⟨A, hA⟩ : ∃ A, A = w.heap.size := ⟨_, rfl⟩
 rw [← hA] at H1 H2 H3 ⊢
 have hA2 : w.heap.size ≤ A := by omega
 have H1 := jh H1
 have H2 := jh H2
 have H3 := jh H3
 have HE : Hid (Ext w w3) := jh HE
 clear hA HB
 refine wp_scope_back0 0 (MixJQ h cs A w) (fun a' _ => 80 - (intOf (a'.tmps.getD 14 undef)).toNat) rfl ?_ ?_
 ·intro HP
  have HP := jh HP
  go_wp2_with (refine zae rfl _ _ rfl (A + 1) rfl _ _ _ _ H2.out Tryz.underlying160 HIr.out ?_)
  refine (schedule_anyQ cs w3 HL.out).mono ?_
  rintro e w4 ⟨rfl, hb⟩
  have H1 := jh (zaa H1.out hb)
  have H3 := jh (zaa H3.out hb)
  have HE := jh (HE.out.trans hb)
  clear hb H2
  have HZ := jh (Blk.made w4 (ints .u64 (List.replicate 80 0)) 137)
  have H1L := jh H1.out.lt
  have H3L := jh H3.out.lt
  have H1 := jh (H1.out.alloc (.cells (ints .u64 (List.replicate 80 0)).toArray 137))
  have H3 := jh (H3.out.alloc (.cells (ints .u64 (List.replicate 80 0)).toArray 137))
  have HS4 := jh HE.out.size
  have HE := jh (HE.out.trans (Ext.alloc w4 (.cells (ints .u64 (List.replicate 80 0)).toArray 137)))
  have HLE : Hid ((ints .u64 (qs (qSch cs 0 64))).length = (ints .u64 (List.replicate 80 0)).length) := jh (by rw [zac, zbh, zdr, zac, List.length_replicate])
  have HIw : Hid ((Tryz.prog.info? 137).map (·.size) = some (ints .u64 (qs (qSch cs 0 64))).length) := jh (by rw [zac, zbh, zdr]; exact Tryz.arr137)
  go_wp2_with (refine zab rfl _ _ _ rfl w4.heap.size (ints .u64 (qs (qSch cs 0 64))) rfl rfl _ _ HZ.out HLE.out HIw.out (zao _ _) ?_; intro w5 hb5 hg5)
  have H1 := jh (H1.out.grown hg5 (by have := H1L.out; simp; omega))
  have H3 := jh (H3.out.grown hg5 (by have := H3L.out; simp; omega))
  have HE := jh (zad HE.out hg5 HS4.out)
  have H4 := jh hb5
  generalize w4.heap.size = B at *
  clear hb5 hg5 HZ H1L H3L HS4 HLE HIw
  go_wp2_with fail
  refine zbm (by kernel_rfl) (by kernel_rfl) ?_
  refine zap _ _ _ _ A 8 0 (by rfl) rfl rfl rfl Tryz.underlying154 (by omega) (Tryz.sizeOf134) ?_
  simp only [Act.put, nrm]
  refine zaq _ _ A 0 (.int .u64 (qi (h.getD 0 0#64))) (by rfl) rfl rfl (fun w hw => blk_q (zaa H1.out hw) (by rw [HH.out]; omega)) (Tryz.isAgg134) ?_
  simp only [Act.put, nrm]
  refine zap _ _ _ _ A 8 1 (by rfl) rfl rfl rfl Tryz.underlying154 (by omega) (Tryz.sizeOf134) ?_
  simp only [Act.put, nrm]
  refine zaq _ _ A 1 (.int .u64 (qi (h.getD 1 0#64))) (by rfl) rfl rfl (fun w hw => blk_q (zaa H1.out hw) (by rw [HH.out]; omega)) (Tryz.isAgg134) ?_
  simp only [Act.put, nrm]
  refine zap _ _ _ _ A 8 2 (by rfl) rfl rfl rfl Tryz.underlying154 (by omega) (Tryz.sizeOf134) ?_
  simp only [Act.put, nrm]
  refine zaq _ _ A 2 (.int .u64 (qi (h.getD 2 0#64))) (by rfl) rfl rfl (fun w hw => blk_q (zaa H1.out hw) (by rw [HH.out]; omega)) (Tryz.isAgg134) ?_
  simp only [Act.put, nrm]
  refine zap _ _ _ _ A 8 3 (by rfl) rfl rfl rfl Tryz.underlying154 (by omega) (Tryz.sizeOf134) ?_
  simp only [Act.put, nrm]
  refine zaq _ _ A 3 (.int .u64 (qi (h.getD 3 0#64))) (by rfl) rfl rfl (fun w hw => blk_q (zaa H1.out hw) (by rw [HH.out]; omega)) (Tryz.isAgg134) ?_
  simp only [Act.put, nrm]
  refine zap _ _ _ _ A 8 4 (by rfl) rfl rfl rfl Tryz.underlying154 (by omega) (Tryz.sizeOf134) ?_
  simp only [Act.put, nrm]
  refine zaq _ _ A 4 (.int .u64 (qi (h.getD 4 0#64))) (by rfl) rfl rfl (fun w hw => blk_q (zaa H1.out hw) (by rw [HH.out]; omega)) (Tryz.isAgg134) ?_
  simp only [Act.put, nrm]
  refine zap _ _ _ _ A 8 5 (by rfl) rfl rfl rfl Tryz.underlying154 (by omega) (Tryz.sizeOf134) ?_
  simp only [Act.put, nrm]
  refine zaq _ _ A 5 (.int .u64 (qi (h.getD 5 0#64))) (by rfl) rfl rfl (fun w hw => blk_q (zaa H1.out hw) (by rw [HH.out]; omega)) (Tryz.isAgg134) ?_
  simp only [Act.put, nrm]
  refine zap _ _ _ _ A 8 6 (by rfl) rfl rfl rfl Tryz.underlying154 (by omega) (Tryz.sizeOf134) ?_
  simp only [Act.put, nrm]
  refine zaq _ _ A 6 (.int .u64 (qi (h.getD 6 0#64))) (by rfl) rfl rfl (fun w hw => blk_q (zaa H1.out hw) (by rw [HH.out]; omega)) (Tryz.isAgg134) ?_
  simp only [Act.put, nrm]
  refine zap _ _ _ _ A 8 7 (by rfl) rfl rfl rfl Tryz.underlying154 (by omega) (Tryz.sizeOf134) ?_
  simp only [Act.put, nrm]
  refine zaq _ _ A 7 (.int .u64 (qi (h.getD 7 0#64))) (by rfl) rfl rfl (fun w hw => blk_q (zaa H1.out hw) (by rw [HH.out]; omega)) (Tryz.isAgg134) ?_
  simp only [Act.put, nrm]
  refine zbs _ (.int .u64 (qi (h.getD 0 0#64))) (by rfl) rfl rfl ?_
  simp only [Act.put, nrm]
  refine zbs _ (.int .u64 (qi (h.getD 1 0#64))) (by rfl) rfl rfl ?_
  simp only [Act.put, nrm]
  refine zbs _ (.int .u64 (qi (h.getD 2 0#64))) (by rfl) rfl rfl ?_
  simp only [Act.put, nrm]
  refine zbs _ (.int .u64 (qi (h.getD 3 0#64))) (by rfl) rfl rfl ?_
  simp only [Act.put, nrm]
  refine zbs _ (.int .u64 (qi (h.getD 4 0#64))) (by rfl) rfl rfl ?_
  simp only [Act.put, nrm]
  refine zbs _ (.int .u64 (qi (h.getD 5 0#64))) (by rfl) rfl rfl ?_
  simp only [Act.put, nrm]
  refine zbs _ (.int .u64 (qi (h.getD 6 0#64))) (by rfl) rfl rfl ?_
  simp only [Act.put, nrm]
  refine zbs _ (.int .u64 (qi (h.getD 7 0#64))) (by rfl) rfl rfl ?_
  simp only [Act.put, nrm]
  refine zba (fun w6 hw6 => ?_)
  have H1 := jh (zaa H1.out hw6)
  have H3 := jh (zaa H3.out hw6)
  have H4 := jh (zaa H4.out hw6)
  have HE := jh (HE.out.trans hw6)
  clear hw6
  go_wp2_with fail
  go_step3
  rename_i hK
  refine hK _ _ (HP.out _ _ ?_)
  exact ⟨0, B, by omega, H1.out, H3.out, H4.out, HE.out, fun n => ([_, _, _, _, _, _, _, _, _, _, _, _, _, _, _, _, _, _, _, _, _, _, _, _, _, _, _, _, _, _, _, _, _, _, _, _, _, _, _, _, _, _, _, _, _, _, _, _, _, _, _, _, _, _, _, _, _, _, _, _, _, _, _, _, _, _, _, _, _, _, _, _, _, _, _, _, _, _, _, _, _, _, _, _, _, _, _, _, _, _, _, _, _, _, _, _, _, _, _, _, _, _, _, _] : List Value).getD (n - 15) undef, rfl⟩
 ·rintro a w7 ⟨k, B, hk, h1, h3, h4, hE, u, rfl⟩
  have H1 := jh h1
  have H3 := jh h3
  have H4 := jh h4
  have HE := jh hE
  clear h1 h3 h4 hE
  have hvl := qRun_length h (qSch cs 0 64) HH.out k
  by_cases hlt : k < 80
  ·have k1 : (k : Int) < 80 := by omega
   have k0 : (0 : Int) ≤ (k : Int) := Int.natCast_nonneg _
   have HWK : Hid (∀ w', Blk w' B (ints .u64 (qs (qSch cs 0 64))) 137 → w'.cell? ⟨B, k, none⟩ = some (.int .u64 (qi ((qSch cs 0 64).getD k 0#64)))) := jh (fun w' h => blk_q h (by rw [zdr]; exact hlt))
   have HKK : Hid (∀ w', Ext w7 w' → w'.cell? ⟨7, k, none⟩ = some (.int .u64 (qi (K512.getD k 0#64)))) := jh (fun w' h => (HG.out.ext (HE.out.trans h)).cell hlt)
   have HRN : Hid (∀ j, (qRun h (qSch cs 0 64) (k + 1)).getD j 0#64 = (rndq (qRun h (qSch cs 0 64) k) (K512.getD k 0#64) ((qSch cs 0 64).getD k 0#64)).getD j 0#64) := jh (fun _ => rfl)
   unfold rndq at HRN
   generalize K512.getD k 0#64 = kk at *
   generalize (qSch cs 0 64).getD k 0#64 = wk at *
   generalize (qRun h (qSch cs 0 64) k).getD 0 0#64 = v0 at *
   generalize (qRun h (qSch cs 0 64) k).getD 1 0#64 = v1 at *
   generalize (qRun h (qSch cs 0 64) k).getD 2 0#64 = v2 at *
   generalize (qRun h (qSch cs 0 64) k).getD 3 0#64 = v3 at *
   generalize (qRun h (qSch cs 0 64) k).getD 4 0#64 = v4 at *
   generalize (qRun h (qSch cs 0 64) k).getD 5 0#64 = v5 at *
   generalize (qRun h (qSch cs 0 64) k).getD 6 0#64 = v6 at *
   generalize (qRun h (qSch cs 0 64) k).getD 7 0#64 = v7 at *
   go_wp2_with fail
   refine zbm (by kernel_rfl) (by kernel_rfl) ?_
   refine zbc _ (.int .u64 (qi v7)) (by rfl) rfl rfl ?_
   simp only [Act.put, nrm]
   refine zbc _ (.int .u64 (qi v4)) (by rfl) rfl rfl ?_
   simp only [Act.put, nrm]
   refine zah _ _ _ [.int .u64 (qi v4), .int .i64 14, .int .i64 18, .int .i64 41] (.int .u64 (qi (rotq v4 14 ^^^ rotq v4 18 ^^^ rotq v4 41))) (by rfl) rfl Tryz.call139 rfl (fun w hw => sum_extQ v4 14 18 41 (by omega) (by omega) (by omega) (by omega) (by omega) (by omega) w) ?_
   simp only [Act.put, nrm]
   refine zfs _ _ _ _ _ _ _ (qi (v7 + (rotq v4 14 ^^^ rotq v4 18 ^^^ rotq v4 41))) (by rfl) rfl rfl rfl (zdh _ _) ?_
   simp only [Act.put, nrm]
   refine zbc _ (.int .u64 (qi v4)) (by rfl) rfl rfl ?_
   simp only [Act.put, nrm]
   refine zbc _ (.int .u64 (qi v5)) (by rfl) rfl rfl ?_
   simp only [Act.put, nrm]
   refine zfr _ _ _ _ _ _ _ (qi (v4 &&& v5)) (by rfl) rfl rfl rfl (qi_and _ _) ?_
   simp only [Act.put, nrm]
   refine zbc _ (.int .u64 (qi v4)) (by rfl) rfl rfl ?_
   simp only [Act.put, nrm]
   refine det_qinot _ _ v4 (by rfl) rfl rfl ?_
   simp only [Act.put, nrm]
   refine zbc _ (.int .u64 (qi v6)) (by rfl) rfl rfl ?_
   simp only [Act.put, nrm]
   refine zfr _ _ _ _ _ _ _ (qi ((~~~v4) &&& v6)) (by rfl) rfl rfl rfl (qi_and _ _) ?_
   simp only [Act.put, nrm]
   refine det_xor _ _ _ _ _ _ _ (qi ((v4 &&& v5) ^^^ ((~~~v4) &&& v6))) (by rfl) rfl rfl rfl (zes _ _) ?_
   simp only [Act.put, nrm]
   refine zfs _ _ _ _ _ _ _ (qi ((v7 + (rotq v4 14 ^^^ rotq v4 18 ^^^ rotq v4 41)) + ((v4 &&& v5) ^^^ ((~~~v4) &&& v6)))) (by rfl) rfl rfl rfl (zdh _ _) ?_
   simp only [Act.put, nrm]
   refine zbc _ (.int .i64 ((k : Nat) : Int)) (by rfl) rfl rfl ?_
   simp only [Act.put, nrm]
   refine zap _ _ _ _ 7 80 k (by rfl) rfl rfl rfl Tryz.underlying137 (by omega) (Tryz.sizeOf134) ?_
   simp only [Act.put, nrm]
   refine zaq _ _ 7 k (.int .u64 (qi kk)) (by rfl) rfl rfl (fun w hw => HKK.out _ hw) (Tryz.isAgg134) ?_
   simp only [Act.put, nrm]
   refine zfs _ _ _ _ _ _ _ (qi (((v7 + (rotq v4 14 ^^^ rotq v4 18 ^^^ rotq v4 41)) + ((v4 &&& v5) ^^^ ((~~~v4) &&& v6))) + kk)) (by rfl) rfl rfl rfl (zdh _ _) ?_
   simp only [Act.put, nrm]
   refine zbc _ (.int .i64 ((k : Nat) : Int)) (by rfl) rfl rfl ?_
   simp only [Act.put, nrm]
   refine zap _ _ _ _ B 80 k (by rfl) rfl rfl rfl Tryz.underlying137 (by omega) (Tryz.sizeOf134) ?_
   simp only [Act.put, nrm]
   refine zaq _ _ B k (.int .u64 (qi wk)) (by rfl) rfl rfl (fun w hw => HWK.out _ (zaa H4.out hw)) (Tryz.isAgg134) ?_
   simp only [Act.put, nrm]
   refine zfs _ _ _ _ _ _ _ (qi ((((v7 + (rotq v4 14 ^^^ rotq v4 18 ^^^ rotq v4 41)) + ((v4 &&& v5) ^^^ ((~~~v4) &&& v6))) + kk) + wk)) (by rfl) rfl rfl rfl (zdh _ _) ?_
   simp only [Act.put, nrm]
   refine zbs _ (.int .u64 (qi ((((v7 + (rotq v4 14 ^^^ rotq v4 18 ^^^ rotq v4 41)) + ((v4 &&& v5) ^^^ ((~~~v4) &&& v6))) + kk) + wk))) (by rfl) rfl rfl ?_
   simp only [Act.put, nrm]
   refine zba (fun w1 hw1 => ?_)
   have H1 := jh (zaa H1.out hw1)
   have H3 := jh (zaa H3.out hw1)
   have H4 := jh (zaa H4.out hw1)
   have HE := jh (HE.out.trans hw1)
   clear hw1
   generalize ht : (((v7 + (rotq v4 14 ^^^ rotq v4 18 ^^^ rotq v4 41)) + ((v4 &&& v5) ^^^ ((~~~v4) &&& v6))) + kk) + wk = t at *
   have HT := jh ht
   clear ht
   go_wp2_with fail
   have q1 : bits .and .u64 (qi v0) (qi v1) = qi (v0 &&& v1) := qi_and _ _
   have q2 : bits .and .u64 (qi v0) (qi v2) = qi (v0 &&& v2) := qi_and _ _
   have q3 : bits .and .u64 (qi v1) (qi v2) = qi (v1 &&& v2) := qi_and _ _
   have q4 : bits .xor .u64 (qi (v0 &&& v1)) (qi (v0 &&& v2)) = qi (v0 &&& v1 ^^^ v0 &&& v2) := zes _ _
   have q5 : bits .xor .u64 (qi (v0 &&& v1 ^^^ v0 &&& v2)) (qi (v1 &&& v2)) = qi (v0 &&& v1 ^^^ v0 &&& v2 ^^^ v1 &&& v2) := zes _ _
   obtain ⟨u16, hu⟩ : ∃ x : Q64, x = (rotq v0 28 ^^^ rotq v0 34 ^^^ rotq v0 39) + (v0 &&& v1 ^^^ v0 &&& v2 ^^^ v1 &&& v2) := ⟨_, rfl⟩
   have q6 : IntKind.u64.wrap (qi (rotq v0 28 ^^^ rotq v0 34 ^^^ rotq v0 39) + qi (v0 &&& v1 ^^^ v0 &&& v2 ^^^ v1 &&& v2)) = qi u16 := by rw [hu, zdh]
   have q7 : IntKind.u64.wrap (qi t + qi u16) = qi (t + u16) := by rw [zdh]
   have q8 : IntKind.u64.wrap (qi v3 + qi t) = qi (v3 + t) := by rw [zdh]
   have HU := jh hu
   clear hu
   refine (sum_anyQ v0 28 34 39 (by omega) (by omega) (by omega) (by omega) (by omega) (by omega) w1).mono ?_
   rintro e w2 ⟨rfl, rfl⟩
   go_wp2_with fail
   clear q1 q2 q3 q4 q5 q6
   go_step3
   have r0 : (qRun h (qSch cs 0 64) (k + 1)).getD 0 0#64 = t + u16 := by rw [HRN.out, ← HT.out, HU.out]; rfl
   have r4 : (qRun h (qSch cs 0 64) (k + 1)).getD 4 0#64 = v3 + t := by rw [HRN.out, ← HT.out]; rfl
   have r1 : (qRun h (qSch cs 0 64) (k + 1)).getD 1 0#64 = v0 := HRN.out 1
   have r2 : (qRun h (qSch cs 0 64) (k + 1)).getD 2 0#64 = v1 := HRN.out 2
   have r3 : (qRun h (qSch cs 0 64) (k + 1)).getD 3 0#64 = v2 := HRN.out 3
   have r5 : (qRun h (qSch cs 0 64) (k + 1)).getD 5 0#64 = v4 := HRN.out 5
   have r6 : (qRun h (qSch cs 0 64) (k + 1)).getD 6 0#64 = v5 := HRN.out 6
   have r7 : (qRun h (qSch cs 0 64) (k + 1)).getD 7 0#64 = v6 := HRN.out 7
   have hk1 : ((k + 1 : Nat) : Int) = (k : Int) + 1 := by omega
   rw [← r0, ← r4, ← r1, ← r2, ← r3, ← r5, ← r6, ← r7, ← hk1]
   change (0 = 0 ∧ (MixJQ h cs A w _ _ ∧ _ < _))
   refine ⟨rfl, ⟨k + 1, B, by omega, H1.out, H3.out, H4.out, HE.out, fun n => ([_, _, _, _, _, _, _, _, _, _, _, _, _, _, _, _, _, _, _, _, _, _, _, _, _, _, _, _, _, _, _, _, _, _, _, _, _, _, _, _, _, _, _, _, _, _, _, _, _, _, _, _, _, _, _, _, _, _, _, _, _, _, _, _, _, _, _, _, _, _, _, _, _, _, _, _, _, _, _, _, _, _, _, _, _, _, _, _, _, _, _, _, _, _, _, _, _, _, _, _, _, _, _, _] : List Value).getD (n - 15) undef, rfl⟩, ?_⟩
   ·show 80 - (intOf (.int .i64 ((k + 1 : Nat) : Int))).toNat < 80 - (intOf (.int .i64 (k : Int))).toNat
    simp [intOf]
    omega
  ·have hk64 : k = 80 := by omega
   subst hk64
   have e := hAdd8Q h (qRun h (qSch cs 0 64) 80) HH.out hvl
   have HM : Hid (mixFQ h cs = _) := jh e
   have hc : ∀ j, j < 8 → w7.cell? ⟨A, j, none⟩ = some (.int .u64 (qi (h.getD j 0#64))) := fun j hj => blk_q H1.out (by rw [HH.out]; exact hj)
   have c0 := hc 0 (by omega)
   have c1 := hc 1 (by omega)
   have c2 := hc 2 (by omega)
   have c3 := hc 3 (by omega)
   have c4 := hc 4 (by omega)
   have c5 := hc 5 (by omega)
   have c6 := hc 6 (by omega)
   have c7 := hc 7 (by omega)
   generalize (qRun h (qSch cs 0 64) 80).getD 0 0#64 = v0 at *
   generalize h.getD 0 0#64 = y0 at *
   have s0 : IntKind.u64.wrap (qi y0 + qi v0) = qi (y0 + v0) := by rw [zdh]
   generalize (qRun h (qSch cs 0 64) 80).getD 1 0#64 = v1 at *
   generalize h.getD 1 0#64 = y1 at *
   have s1 : IntKind.u64.wrap (qi y1 + qi v1) = qi (y1 + v1) := by rw [zdh]
   generalize (qRun h (qSch cs 0 64) 80).getD 2 0#64 = v2 at *
   generalize h.getD 2 0#64 = y2 at *
   have s2 : IntKind.u64.wrap (qi y2 + qi v2) = qi (y2 + v2) := by rw [zdh]
   generalize (qRun h (qSch cs 0 64) 80).getD 3 0#64 = v3 at *
   generalize h.getD 3 0#64 = y3 at *
   have s3 : IntKind.u64.wrap (qi y3 + qi v3) = qi (y3 + v3) := by rw [zdh]
   generalize (qRun h (qSch cs 0 64) 80).getD 4 0#64 = v4 at *
   generalize h.getD 4 0#64 = y4 at *
   have s4 : IntKind.u64.wrap (qi y4 + qi v4) = qi (y4 + v4) := by rw [zdh]
   generalize (qRun h (qSch cs 0 64) 80).getD 5 0#64 = v5 at *
   generalize h.getD 5 0#64 = y5 at *
   have s5 : IntKind.u64.wrap (qi y5 + qi v5) = qi (y5 + v5) := by rw [zdh]
   generalize (qRun h (qSch cs 0 64) 80).getD 6 0#64 = v6 at *
   generalize h.getD 6 0#64 = y6 at *
   have s6 : IntKind.u64.wrap (qi y6 + qi v6) = qi (y6 + v6) := by rw [zdh]
   generalize (qRun h (qSch cs 0 64) 80).getD 7 0#64 = v7 at *
   generalize h.getD 7 0#64 = y7 at *
   have s7 : IntKind.u64.wrap (qi y7 + qi v7) = qi (y7 + v7) := by rw [zdh]
   clear hc e
   have HIm : Hid ((Tryz.prog.info? 154).map (·.size) = some (ints .u64 (qs [y0 + v0, y1 + v1, y2 + v2, y3 + v3, y4 + v4, y5 + v5, y6 + v6, y7 + v7])).length) := jh Tryz.arr154
   go_wp2_with (refine zab rfl _ _ _ rfl (A + 1 + 1) (ints .u64 (qs [y0 + v0, y1 + v1, y2 + v2, y3 + v3, y4 + v4, y5 + v5, y6 + v6, y7 + v7])) rfl rfl _ _ H3.out (by simp [zac, zbh]) HIm.out (zao _ _) ?_; intro w8 hb8 hg8)
   simp only [Exit.jump]
   refine bodyPost_ret (zbn rfl _ (A + 1 + 1) _ _ _ _ rfl hb8 Tryz.underlying154 HIm.out) rfl ?_
   exact ⟨by rw [HM.out], zad HE.out hg8 (by omega)⟩
theorem rot_any (x : Q64) (n : Nat) (hn : n ≤ 64) (w : World) : Calls Tryz.prog 105 #[.int .u64 (qi x), .int .u64 (n : Int)] w fun e w' => e = .returned (.int .u64 (qi (rotq x n))) ∧ w = w' := by
 have HX := jh (qi_rotq x n)
 have hr := qi_range x
 generalize qi x = z at *
 have n0 : (n : Int) ≤ 64 := by omega
 go_enter Tryz.func105, Tryz.ntmps105
 go_wp2_with fail
 go_ret
 exact ⟨congrArg (fun v => Ending.returned (.int .u64 v)) (by rw [← HX.out, IntKind.wrap_u64]), rfl⟩
theorem rot_ext (x : Q64) (n : Nat) (hn : n ≤ 64) (w : World) : Calls Tryz.prog 105 #[.int .u64 (qi x), .int .u64 (n : Int)] w fun e w' => e = .returned (.int .u64 (qi (rotq x n))) ∧ Below w.heap.size w w' :=
 (rot_any x n hn w).mono fun _ _ h => ⟨h.1, by obtain ⟨_, rfl⟩ := h; exact Below.refl _ _⟩
def lenOf : Value → Nat
 | .slice _ n _ => n
 | _ => 0
theorem ownRow_len {w : World} {base : Nat} {e : TypeId} {n : Nat} {x : Value} {xs : List Value} (h : w.ownsRow base e 1 x n xs) : lenOf x = n := by
 obtain ⟨_, ⟨rfl, rfl⟩ | ⟨g, cap, cur, rfl, _⟩⟩ := h
 ·rfl
 ·rfl
theorem own_eq {w : World} {base : Nat} {e : TypeId} {n m : Nat} {x : Value} {xs ys : List Value} (h : w.ownsRow base e 1 x n xs) (hn : n = m) (hx : xs = ys) : w.ownsRow base e 1 x m ys := by
 subst hn; subst hx
 exact h
def padA (b : List UInt8) (k : Nat) : List UInt8 := b ++ [128] ++ List.replicate k 0
theorem padA_succ (b : List UInt8) (k : Nat) : padA b (k + 1) = padA b k ++ [0] := by
 unfold padA
 rw [List.replicate_succ']
 simp [List.append_assoc]
theorem padA_length (b : List UInt8) (k : Nat) : (padA b k).length = b.length + 1 + k := by simp [padA]; omega
theorem beB_get (n : Nat) : ∀ k j, j < k → (beB k n)[j]? = some (UInt8.ofNat (n / 256 ^ (k - 1 - j) % 256))
 | 0, j, h => by omega
 | k + 1, 0, h => by simp [beB]
 | k + 1, j + 1, h => by
  simp only [beB, List.getElem?_cons_succ]
  rw [beB_get n k j (by omega)]
  congr 5
  omega
def padC (b : List UInt8) (k : Nat) : List UInt8 := padA b (padQ b.length) ++ (beB 16 (8 * b.length)).take k
theorem padC_full (b : List UInt8) : padC b 16 = paddedQ b := by
 unfold padC paddedQ padA
 rw [List.take_of_length_le (by rw [beB_length]; exact Nat.le_refl _)]
theorem padC_succ (b : List UInt8) (k : Nat) (hk : k < 16) : padC b (k + 1) = padC b k ++ [UInt8.ofNat (8 * b.length / 256 ^ (15 - k) % 256)] := by
 unfold padC
 have hl : k < (beB 16 (8 * b.length)).length := by rw [beB_length]; exact hk
 rw [List.take_succ_eq_append_getElem hl, List.append_assoc]
 congr 2
 have h1 := beB_get (8 * b.length) 16 k hk
 rw [List.getElem?_eq_getElem hl] at h1
 simpa using h1
theorem padQ_test (n k : Nat) (hk : k ≤ padQ n) : ((n + 1 + k) % 128 = 112 ↔ k = padQ n) := by
 unfold padQ at *
 omega
theorem paddedQ_any (v : Value) (b : List UInt8) (w : World) (hv : Row1 w v (b.map bval)) (hb : b.length ≤ 1099511627776) :
  Calls Tryz.prog 104 #[v, .int .i64 128, .int .i64 16] w fun e w' => ∃ x, e = .returned x ∧ Row1 w' x ((paddedQ b).map bval) ∧ Below w.heap.size w w' := by
 obtain ⟨i0, hi, hz0, hz1, hz2⟩ := info_parts Tryz.info5
 have HRW := jh hv
 obtain ⟨a, cap, hva, r1, r2, r3, r4⟩ := id hv
 rw [List.length_map] at hva r1
 unfold maxLen at r2
 subst hva
 have HI0 := jh hi
 have HZ0 := jh hz0
 have HZ1 := jh hz1
 have HZ2 := jh hz2
 have HLM : Hid ((b.map bval).length = b.length) := jh (List.length_map _)
 have HNIL : Hid (w.ownsRow w.heap.size 5 1 (.slice none 0 0) 0 []) := jh (World.ownsRow_nil _ _ _ _)
 clear hv r3 r4 hi hz0 hz1 hz2
 go_enter Tryz.func104, Tryz.ntmps104
 go_wp2_with (first | (at_builtin; refine zas rfl _ _ 46 rfl w.heap.size 5 i0 (.int .u8 0) 1 Tryz.underlying46 HI0.out HZ0.out HZ1.out HZ2.out rfl _ 0 [] rfl HNIL.out rfl HRW.out (zaj _) (by rw [HLM.out]; unfold maxLen; omega) (by rw [HLM.out]; omega) (Nat.le_refl _) ?_; intro v1 w1 hown1 hgrow1; have HO1 := jh hown1; have HX1 := jh (zfp (Ext.refl w) HNIL.out (Nat.le_refl _) hgrow1); have HS1 := jh hgrow1.size; clear hown1 hgrow1) | (at_builtin; refine zas rfl _ _ 46 rfl w.heap.size 5 i0 (.int .u8 0) 1 Tryz.underlying46 HI0.out HZ0.out HZ1.out HZ2.out rfl _ (0 + (b.map bval).length) _ rfl (HO1.out.alloc _) rfl (Row1.made _ #[.int .u8 128] _ _ 1 ([128].map bval) rfl rfl rfl (by unfold maxLen; omega)) (zaj _) (by rw [HLM.out]; unfold maxLen; simp; omega) (by rw [HLM.out]; simp; omega) (by simp; have := HS1.out; omega) ?_; intro v2 w2 hown2 hgrow2))
 have HX2 := jh (zfp (HX1.out.trans (Ext.alloc w1 (.cells #[.int .u8 128] 5))) (HO1.out.alloc _) (Nat.le_refl _) hgrow2)
 have HO2 : Hid (w2.ownsRow w.heap.size 5 1 v2 (padA b 0).length ((padA b 0).map bval)) := jh (by
  have h := hown2
  rw [List.nil_append, ← List.map_append] at h
  have e : 0 + (b.map bval).length + ([128].map bval).length = (padA b 0).length := by simp [padA]
  rw [e] at h
  simpa [padA] using h)
 clear hown2 hgrow2 HO1 HX1 HS1
 go_loopw [7] (fun x wr => ∃ (k : Nat), k ≤ padQ b.length ∧ wr.ownsRow w.heap.size 5 1 x (padA b k).length ((padA b k).map bval) ∧ Ext w wr) (fun x _ => b.length + 1 + padQ b.length - lenOf x)
 case atStart => exact ⟨0, by omega, HO2.out, HX2.out⟩
 case round =>
  clear HO2 HX2
  obtain ⟨k, hk, ho, hE⟩ := hrel
  obtain ⟨a2, cap2, rfl, s1, s2, s3, s4⟩ := id (Row1.of_own ho)
  have hpl := padA_length b k
  have ht := padQ_test b.length k hk
  have hp63 : padQ b.length < 128 := by unfold padQ; omega
  have HO := jh ho
  have HE := jh hE
  rw [List.length_map, hpl] at s1 HO ⊢
  unfold maxLen at s2
  clear ho hE s3 s4
  by_cases hkn : k = padQ b.length
  ·subst hkn
   have hd : (((b.length + 1 + padQ b.length : Nat) : Int) % 128 != 112) = false := by simp; omega
   have HO2 : Hid (wr.ownsRow w.heap.size 5 1 (.slice a2 (b.length + 1 + padQ b.length) cap2) (padC b 0).length ((padC b 0).map bval)) := jh (own_eq HO.out (by simp [padC, padA]; omega) (by simp [padC]))
   clear HO ht hpl s1 s2
   generalize b.length + 1 + padQ b.length = n at *
   go_wp2_with fail
   obtain ⟨wo, rfl⟩ : ∃ wo : World, wo = wr := ⟨_, rfl⟩
   go_loopw [7, 9] (fun x i wr => ∃ (j : Nat), j ≤ 16 ∧ i = .int .i64 (15 - (j : Int)) ∧ wr.ownsRow w.heap.size 5 1 x (padC b j).length ((padC b j).map bval) ∧ Ext w wr) (fun _ i _ => (intOf i + 1).toNat)
   case atStart => exact ⟨0, by omega, rfl, HO2.out, HE.out⟩
   case round =>
    clear HO2 HE
    obtain ⟨j, hj, rfl, ho, hE⟩ := hrel
    have HO := jh ho
    have HE := jh hE
    have HS := jh hE.size
    have hpb : (padC b j).length ≤ 1099511628200 := by simp [padC, padA]; omega
    by_cases hj8 : j < 16
    ·have HBS := jh (padC_succ b j hj8)
     obtain ⟨k, hk⟩ : ∃ k : Nat, k = 15 - j := ⟨_, rfl⟩
     have hk2 : (15 : Int) - (j : Int) = (k : Int) := by omega
     rw [hk2]
     have HJ : Hid (j + k = 15) := jh (by omega)
     rw [← hk] at HBS
     clear ho hE hk hk2 hj hj8
     have k0 : (0 : Int) ≤ (k : Int) := Int.natCast_nonneg _
     by_cases hk8 : k < 8
     ·have k8 : (k : Int) < 8 := by omega
      clear hk8
      obtain ⟨s, hs⟩ : ∃ s : Nat, s = 8 * k := ⟨_, rfl⟩
      have hs2 : 8 * (k : Int) = (s : Int) := by omega
      have s64 : (s : Int) < 64 := by omega
      have e1 : (2 : Int) ^ s = ((256 ^ k : Nat) : Int) := by rw [hs, Int.pow_mul]; simp
      have hv2 : 8 * (b.length : Int) / 2 ^ s = ((8 * b.length / 256 ^ k : Nat) : Int) := by
       have e2 : 8 * (b.length : Int) = ((8 * b.length : Nat) : Int) := by omega
       rw [e1, e2, ← Int.natCast_ediv]
      have hvb : 8 * b.length / 256 ^ k ≤ 8 * b.length := Nat.div_le_self _ _
      have hq : ((UInt8.ofNat (8 * b.length / 256 ^ k % 256)).toNat : Int) = ((8 * b.length / 256 ^ k : Nat) : Int) % 256 := by rw [UInt8.toNat_ofNat']; omega
      have HQ := jh hq
      generalize UInt8.ofNat (8 * b.length / 256 ^ k % 256) = c at *
      generalize 8 * b.length / 256 ^ k = q at *
      have hm := and_i64_255 (q : Int) (by omega) (by omega)
      have HBV : Hid (bval c = .int .u8 ((q : Int) % 256)) := jh (by unfold bval; rw [hq])
      clear hs hq e1
      go_wp2_with (at_builtin; refine zas rfl _ _ 46 rfl w.heap.size 5 i0 (.int .u8 0) 1 Tryz.underlying46 HI0.out HZ0.out HZ1.out HZ2.out rfl _ (padC b j).length _ rfl (HO.out.alloc _) rfl (Row1.made _ #[.int .u8 ((q : Int) % 256)] _ _ 1 [.int .u8 ((q : Int) % 256)] rfl rfl rfl (by unfold maxLen; omega)) (by intro u hu; simp at hu; subst hu; rfl) (by unfold maxLen; simp; omega) (by simp; omega) (by simp; have := HS.out; omega) ?_; intro v3 w3 hown3 hgrow3)
      go_roundw
      case rel =>
       refine ⟨j + 1, by have := HJ.out; omega, ?_, own_eq hown3 (by rw [HBS.out]; simp) (by rw [HBS.out, List.map_append, List.map_cons, List.map_nil, HBV.out]), zfp (HE.out.trans (Ext.alloc wr _)) (HO.out.alloc _) (Nat.le_refl _) hgrow3⟩
       have := HJ.out
       rw [show (k : Int) - 1 = 15 - ((j + 1 : Nat) : Int) from by omega]
      case measure => simp [intOf]
     ·have k8 : 8 ≤ (k : Int) := by omega
      have k16 : (k : Int) ≤ 15 := by have := HJ.out; omega
      have hq : ((UInt8.ofNat (8 * b.length / 256 ^ k % 256)).toNat : Int) = 0 := by
       have h1 : 8 * b.length / 256 ^ k = 0 := by
        apply Nat.div_eq_of_lt
        have h2 : (256 : Nat) ^ 8 ≤ 256 ^ k := Nat.pow_le_pow_right (by omega) (by omega)
        have h3 : (256 : Nat) ^ 8 = 18446744073709551616 := rfl
        omega
       rw [h1]
       rfl
      generalize UInt8.ofNat (8 * b.length / 256 ^ k % 256) = c at *
      have HBV : Hid (bval c = .int .u8 0) := jh (by unfold bval; rw [hq])
      clear hq hk8
      go_wp2_with (at_builtin; refine zas rfl _ _ 46 rfl w.heap.size 5 i0 (.int .u8 0) 1 Tryz.underlying46 HI0.out HZ0.out HZ1.out HZ2.out rfl _ (padC b j).length _ rfl (HO.out.alloc _) rfl (Row1.made _ #[.int .u8 0] _ _ 1 [.int .u8 0] rfl rfl rfl (by unfold maxLen; omega)) (by intro u hu; simp at hu; subst hu; rfl) (by unfold maxLen; simp; omega) (by simp; omega) (by simp; have := HS.out; omega) ?_; intro v3 w3 hown3 hgrow3)
      go_roundw
      case rel =>
       refine ⟨j + 1, by have := HJ.out; omega, ?_, own_eq hown3 (by rw [HBS.out]; simp) (by rw [HBS.out, List.map_append, List.map_cons, List.map_nil, HBV.out]), zfp (HE.out.trans (Ext.alloc wr _)) (HO.out.alloc _) (Nat.le_refl _) hgrow3⟩
       have := HJ.out
       rw [show (k : Int) - 1 = 15 - ((j + 1 : Nat) : Int) from by omega]
      case measure => simp [intOf]
    ·have hj8' : j = 16 := by omega
     subst hj8'
     have hm1 : (15 : Int) - ((16 : Nat) : Int) = -1 := rfl
     rw [hm1]
     have hr0 := Row1.of_own ho
     rw [padC_full] at hr0
     have HR := jh hr0
     clear hr0
     clear ho hE hj hj8 HO hpb
     go_wp2_with fail
     go_ret
     exact ⟨_, rfl, HR.out, HE.out⟩
  ·have hd : (((b.length + 1 + k : Nat) : Int) % 128 != 112) = true := by simp; omega
   have hL : ((b.length + 1 + k : Nat) : Int) = (b.length : Int) + 1 + (k : Int) := by omega
   have HS := jh HE.out.size
   have HK : Hid (k < padQ b.length) := jh (by omega)
   clear ht hL
   generalize hn : b.length + 1 + k = n at *
   have HN := jh hn
   have hn9 : n ≤ 1099511628200 := by omega
   clear hn hpl hkn hk
   go_wp2_with (at_builtin; refine zas rfl _ _ 46 rfl w.heap.size 5 i0 (.int .u8 0) 1 Tryz.underlying46 HI0.out HZ0.out HZ1.out HZ2.out rfl _ n _ rfl (HO.out.alloc _) rfl (Row1.made _ #[.int .u8 0] _ _ 1 ([0].map bval) rfl rfl rfl (by unfold maxLen; omega)) (zaj _) (by unfold maxLen; simp; omega) (by simp; omega) (by simp; have := HS.out; omega) ?_; intro v3 w3 hown3 hgrow3)
   go_roundw
   case rel =>
    refine ⟨k + 1, HK.out, own_eq hown3 (by rw [padA_length, ← HN.out]; simp; omega) (by rw [padA_succ, List.map_append]), zfp (HE.out.trans (Ext.alloc wr (.cells #[.int .u8 0] 5))) (HO.out.alloc _) (Nat.le_refl _) hgrow3⟩
   case measure =>
    rw [ownRow_len hown3]
    have := HN.out
    have := HK.out
    simp [lenOf]
    omega
def MsgAt (B0 c off : Nat) (m : List UInt8) (w : World) : Prop := c < B0 ∧ B0 ≤ w.heap.size ∧ ∀ j, j < m.length → w.cell? ⟨c, off + j, none⟩ = some (.int .u8 ((m.getD j 0).toNat : Int))
theorem MsgAt.ext {B0 c off : Nat} {m : List UInt8} {w w' : World} (h : MsgAt B0 c off m w) (he : Ext w w') : MsgAt B0 c off m w' :=
 ⟨h.1, Nat.le_trans h.2.1 he.size, fun j hj => by rw [← h.2.2 j hj]; exact he.cell (p := ⟨c, off + j, none⟩) (Nat.lt_of_lt_of_le h.1 h.2.1)⟩
theorem MsgAt.drew {B0 c off : Nat} {m : List UInt8} {w : World} (h : MsgAt B0 c off m w) : MsgAt B0 c off m w.drew := h
theorem MsgAt.far {B0 c off : Nat} {m : List UInt8} {w : World} (h : MsgAt B0 c off m w) {a : Addr} (ha : a.block ≠ c) (v : Value) : MsgAt B0 c off m (w.setCell a v) :=
 ⟨h.1, by simpa [World.setCell] using h.2.1, fun j hj => by rw [← h.2.2 j hj]; exact World.cell?_setCell_other _ _ _ _ (by rintro rfl; exact ha rfl)⟩
theorem MsgAt.grown {B0 c off : Nat} {m : List UInt8} {w w' : World} {r : Option Nat} (h : MsgAt B0 c off m w) (hg : w.grownBy w' r) (hr : r ≠ some c) : MsgAt B0 c off m w' :=
 ⟨h.1, Nat.le_trans h.2.1 hg.size, fun j hj => by
  rw [← h.2.2 j hj]
  have := hg.block c (Nat.lt_of_lt_of_le h.1 h.2.1) (fun e => hr e.symm)
  simp [World.cell?, this]⟩
theorem not_bytes {K : IntKind} (hK : K ≠ .u8) {zs : List Int} {i : Nat} {z : Int} : (ints K zs)[i]? ≠ some (.int .u8 z) := by
 unfold ints
 rw [List.getElem?_map]
 cases zs[i]? <;> simp [hK]
end Go.Proofs.YthafgicndklgfaaGreatDoor
