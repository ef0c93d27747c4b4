/- Lemmas. -/
import Derived.Test.YthafgicndklgfaaGreatDoorQy03
namespace Go.Proofs.YthafgicndklgfaaGreatDoor
set_option linter.unusedVariables false
set_option maxRecDepth 100000
set_option maxHeartbeats 32000000
set_option linter.unusedSimpArgs false
open Go.RowKit
def GlobK5 (w : World) : Prop := w.rangeAt 4 0 (ints .u64 (qs K512))
theorem GlobK5.ext {w w' : World} (h : GlobK5 w) (hb : Ext w w') : GlobK5 w' := zfi h hb
theorem GlobK5.cell {w : World} (h : GlobK5 w) {j : Nat} (hj : j < 80) : w.cell? ⟨4, j, none⟩ = some (.int .u64 (qi (K512.getD j 0#64))) := by
 have := h j (.int .u64 (qi (K512.getD j 0#64))) (by rw [zan (by rw [zay]; exact hj), zen])
 simpa using this
theorem qTop_at (m : List UInt8) (s : Nat) : ∀ k i, k ≤ i → i < 80 → (qTop m s k).getD i 0#64 = 0#64
 | 0, i, _, h => by
  rw [qTop, List.getD, List.getElem?_replicate, if_pos h]
  rfl
 | k + 1, i, h, h2 => by
  rw [qTop]
  have := qTop_at m s k i (by omega) h2
  simp only [List.getD, List.getElem?_set_ne (show k ≠ i by omega)] at this ⊢
  exact this
theorem qTop_same (m : List UInt8) (s k : Nat) (h : k < 80) : (qTop m s k).set k (BitVec.ofNat 64 (beN m (s + 8 * k) 0)) = qTop m s k := by
 have e := qTop_at m s k k (q102 _) h
 have hl := qTop_length m s k
 apply List.ext_getElem?
 intro i
 by_cases hi : k = i
 ·subst hi
  rw [List.getElem?_set_self (by omega)]
  simp only [List.getD] at e
  rw [List.getElem?_eq_getElem (by omega)] at e ⊢
  simp only [Option.getD_some] at e
  rw [e]
  rfl
 ·rw [List.getElem?_set_ne hi]
theorem outQ_getD (h : List Q64) (i : Nat) (hi : i < 64) : (outQ h).getD i 0 = UInt8.ofNat ((h.getD (i / 8) 0#64).toNat / 2 ^ (56 - 8 * (i % 8)) % 256) := by
 unfold outQ
 simp [List.getD, hi]
theorem and_q_255 (a : Q64) : bits .and .u64 (qi a) 255 = ((a.toNat % 256 : Nat) : Int) := by
 have h : (255 : Int) = qi 255#64 := rfl
 rw [h, qi_and]
 unfold qi
 rw [BitVec.toNat_and]
 have h2 : (255#64).toNat = 2 ^ 8 - 1 := by decide
 rw [h2, q145]
theorem rShb_any (v : Value) (b : List UInt8) (w : World) (hv : Row1 w v (b.map bval)) (hb : b.length ≤ 1099511627776) (hG : GlobK5 w) :
  Calls Tryz.prog 65 #[v] w fun e w' => e = .returned (.agg ((sha512 b).map bval).toArray) ∧ Below w.heap.size w w' := by
 have HRW := jh hv
 have HG := jh hG
 have HB := jh (boxes2 w (ints .u8 (List.replicate 64 0)) (ints .u64 (List.replicate 8 0)) 26 135)
 have HBL := jh hb
 clear hv hG hb
 go_enter Tryz.func65, Tryz.ntmps65
 go_wp2_with (refine ssb (w.heap.size + 1) (ints .u64 (qs H512)) HB.out.2.1 rfl (by rw [zaa]; exact Tryz.arr135) (zaj _ _) ?_; intro w1 hb1 hg1)
 have H1 := HB.out.1.grown hg1 (by simp)
 have HE := zab HB.out.2.2 hg1 (by omega)
 have H2 := hb1
 obtain ⟨A, hA⟩ : ∃ A, A = w.heap.size := ⟨_, rfl⟩
 rw [← hA] at H1 H2 ⊢
 have hA2 : w.heap.size ≤ A := by omega
 have HP := jh (paddedQ_any v b w1 (HRW.out.below HE) HBL.out)
 have H1 := jh H1
 have H2 := jh H2
 have HE := jh HE
 clear hA hb1 hg1 HB
 refine HP.out.mono ?_
 rintro e w2 ⟨mv, rfl, hrow, hb2⟩
 have H1 := xb H1 hb2
 have H2 := xb H2 hb2
 have HE := xt HE hb2
 have hpl := paddedQ_length b
 obtain ⟨m, hm⟩ : ∃ m, m = paddedQ b := ⟨_, rfl⟩
 obtain ⟨N, hN⟩ : ∃ N, N = (b.length + 144) / 128 := ⟨_, rfl⟩
 have HM := jh hm
 have HN := jh hN
 rw [← hm] at hrow hpl
 rw [← hN] at hpl
 have HR := jh hrow
 obtain ⟨a, cap, rfl, r1, r2, r3, r4⟩ := id hrow
 rw [q101, hpl] at r1 HR ⊢
 unfold maxLen at r2
 obtain ⟨b', off, rfl, hbs, hcell⟩ := r4 (by intro e; have h := congrArg List.length e; rw [q101, hpl] at h; simp only [q160] at h; omega)
 have hms : MsgAt w2.heap.size b' off m w2 := ⟨hbs, q102 _, fun j hj => by rw [hcell j (by rw [q101]; exact hj), zbg hj]⟩
 have hbA : b' ≠ A + 1 := by
  rintro rfl
  have h1 := hms.2.2 0 (by omega)
  rw [H2.out.cell] at h1
  exact (not_bytes (by decide)) h1
 have HBA := jh hbA
 have HMS := jh hms
 have HBS := jh hbs
 have hNb : N ≤ 17179869300 := by have := HBL.out; omega
 have HML := jh hpl
 clear hb2 hrow hm hN hpl r3 r4 HP HRW hms hcell hbA hbs
 go_wp2_with fail
 go_loopw [5] (fun iv wr => ∃ (n : Nat), n ≤ N ∧ iv = .int .i64 (128 * (n : Int)) ∧ Blk wr (A + 1) (ints .u64 (qs (gRun m n))) 135 ∧ Blk wr A (ints .u8 (List.replicate 64 0)) 26 ∧ MsgAt w2.heap.size b' off m wr ∧ Ext w wr) (fun iv _ => 128 * N - (intOf iv).toNat)
 case atStart => exact ⟨0, by omega, rfl, H2.out, H1.out, HMS.out, HE.out⟩
 case round =>
  clear H1 H2 HE
  obtain ⟨n, hn, rfl, hb2, hb1, he2, hbel⟩ := hrel
  have n0 : (0 : Int) ≤ 128 * (n : Int) := by omega
  by_cases hlt : n < N
  ·have n1 : 128 * (n : Int) < 128 * (N : Int) := by omega
   have H1 := jh hb1
   have H2 := jh hb2
   have HE := jh hbel
   have HE2 := jh he2
   clear hb1 hb2 hbel he2
   have HZ := jh (Blk.made wr (ints .u64 (List.replicate 80 0)) 137)
   have hDA := H2.out.lt
   have H1 := jh (H1.out.alloc (.cells (ints .u64 (List.replicate 80 0)).toArray 137))
   have H2 := jh (H2.out.alloc (.cells (ints .u64 (List.replicate 80 0)).toArray 137))
   have HE2' := HE2.out.2.1
   have HE := jh (HE.out.trans (Ext.alloc wr (.cells (ints .u64 (List.replicate 80 0)).toArray 137)))
   have HE2 := jh (HE2.out.ext (Ext.alloc wr (.cells (ints .u64 (List.replicate 80 0)).toArray 137)))
   have hD2 : w2.heap.size ≤ wr.heap.size := HE2'
   clear HE2'
   go_upto_region 7 with (fail)
   change Code.wp _ _ _ _ (wr.alloc (.cells (ints .u64 (List.replicate 80 0)).toArray 137))
   generalize wr.alloc (.cells (ints .u64 (List.replicate 80 0)).toArray 137) = w3 at *
   generalize wr.heap.size = D at *
   go_wp2_with fail
   go_loopw [7] (fun iv wr => ∃ (k : Nat), k ≤ 16 ∧ iv = .int .i64 (k : Int) ∧ Blk wr D (ints .u64 (qs (qTop m (128 * n) k))) 137 ∧ Blk wr (A + 1) (ints .u64 (qs (gRun m n))) 135 ∧ Blk wr A (ints .u8 (List.replicate 64 0)) 26 ∧ MsgAt w2.heap.size b' off m wr ∧ Ext w wr) (fun iv _ => 16 - (intOf iv).toNat)
   case atStart => exact ⟨0, by omega, rfl, by rw [qTop, qs_zeros]; exact HZ.out, H2.out, H1.out, HE2.out, HE.out⟩
   case round =>
    clear H1 H2 HE HE2 HZ
    obtain ⟨k, hk, rfl, hbw, hb2, hb1, he2, hbel⟩ := hrel
    have k0 : (0 : Int) ≤ (k : Int) := Int.natCast_nonneg _
    have hwl := qTop_length m (128 * n) k
    by_cases hlk : k < 16
    ·have k1 : (k : Int) < 16 := by omega
     have k80 : (k : Int) < 80 := by omega
     obtain ⟨p, hp⟩ : ∃ p : Nat, p = 128 * n + 8 * k := ⟨_, rfl⟩
     have hp1 : 128 * (n : Int) + 8 * (k : Int) = (p : Int) := by omega
     have hpN : p + 8 ≤ 128 * N := by omega
     have HST : Hid (qTop m (128 * n) (k + 1) = (qTop m (128 * n) k).set k (beQ m p)) := jh (by rw [hp]; rfl)
     have H0 : Hid ((qTop m (128 * n) k).set k (BitVec.ofNat 64 (beN m p 0)) = qTop m (128 * n) k) := jh (qTop_same m (128 * n) k (by omega))
     have HWL : Hid ((qTop m (128 * n) k).length = 80) := jh hwl
     generalize qTop m (128 * n) k = T0 at *
     have HWB := jh hbw
     have H1 := jh hb1
     have H2 := jh hb2
     have HE := jh hbel
     have HE2 := jh he2
     clear hbw hb1 hb2 hbel he2 hwl hp
     go_wp2_with fail
     obtain ⟨wo, rfl⟩ : ∃ wo : World, wo = wr := ⟨_, rfl⟩
     go_loopw [8] (fun iv wr => ∃ (j : Nat), j ≤ 8 ∧ iv = .int .i64 (j : Int) ∧ Blk wr D (ints .u64 (qs (T0.set k (BitVec.ofNat 64 (beN m p j))))) 137 ∧ Blk wr (A + 1) (ints .u64 (qs (gRun m n))) 135 ∧ Blk wr A (ints .u8 (List.replicate 64 0)) 26 ∧ MsgAt w2.heap.size b' off m wr ∧ Ext w wr) (fun iv _ => 8 - (intOf iv).toNat)
     case atStart => exact ⟨0, by omega, rfl, by rw [H0.out]; exact HWB.out, H2.out, H1.out, HE2.out, HE.out⟩
     case round =>
      clear HWB H1 H2 HE HE2
      obtain ⟨j, hj, rfl, hbw, hb2, hb1, he2, hbel⟩ := hrel
      have j0 : (0 : Int) ≤ (j : Int) := Int.natCast_nonneg _
      by_cases hj8 : j < 8
      ·have j1 : (j : Int) < 8 := by omega
       have hbn := beN_lt m p j
       have hbn2 : 256 ^ j ≤ 256 ^ 7 := q178 (by omega) (by omega)
       have h7 : (256 : Nat) ^ 7 = 72057594037927936 := rfl
       have c0 := he2.2.2 (p + j) (by rw [HML.out]; omega)
       have d0 := UInt8.toNat_lt (m.getD (p + j) 0)
       have HBN : Hid (beN m p (j + 1) = 256 * beN m p j + (m.getD (p + j) 0).toNat) := jh rfl
       generalize (m.getD (p + j) 0).toNat = x0 at *
       generalize beN m p j = b0 at *
       have hb0 : b0 < 72057594037927936 := by omega
       have e1 := hbw.cell k
       rw [zan (by rw [zay, q154, HWL.out]; omega), zen] at e1
       have e2 : (T0.set k (BitVec.ofNat 64 b0)).getD k 0#64 = BitVec.ofNat 64 b0 := by simp [List.getD, HWL.out, (by omega : k < 80)]
       rw [e2, qi_lit b0 (by omega)] at e1
       have f1 := hbw.free k
       have hor : bits .or .u64 ((b0 : Int) * 256) (x0 : Int) = qi (BitVec.ofNat 64 (beN m p (j + 1))) := by
        have a1 : (b0 : Int) * 256 = ((256 * b0 : Nat) : Int) := by omega
        rw [a1, or64 _ _ (by omega) (by omega), HBN.out, qi_lit _ (by omega)]
        exact congrArg _ (or_sum 8 x0 b0 (by omega))
       have HOR := jh hor
       have HWB := jh hbw
       have H1 := jh hb1
       have H2 := jh hb2
       have HE := jh hbel
       have HE2 := jh he2
       have pj : (p : Int) + (j : Int) < 128 * (N : Int) := by omega
       have pj0 : (0 : Int) ≤ (p : Int) := Int.natCast_nonneg _
       clear hbw hb1 hb2 hbel he2 hbn hbn2 h7 e2 hor
       go_upto_region 13 with (fail)
       go_region
       go_wp2_with fail
       go_roundw
       case rel =>
        refine ⟨j + 1, by omega, by go_num, ?_, (H2.out.far (by simp <;> omega) _).drewN 1, (H1.out.far (by simp <;> omega) _).drewN 1, (HE2.out.far (by have := HBS.out; simp; omega) _).drew, (Below.setCell HE.out (by simp <;> omega) _).drew⟩
        have h := (HWB.out.seti k (bits .or .u64 ((b0 : Int) * 256) (x0 : Int))).drewN 1
        rw [HOR.out] at h ⊢
        rw [qs_set, List.set_set] at h
        exact h
       case measure => simp [intOf]; omega
      ·have hj9 : j = 8 := by omega
       subst hj9
       have HWB := jh hbw
       have H1 := jh hb1
       have H2 := jh hb2
       have HE := jh hbel
       have HE2 := jh he2
       clear hbw hb1 hb2 hbel he2
       go_wp2_with fail
       go_roundw
       case rel => exact ⟨k + 1, by omega, by go_num, by rw [HST.out]; exact HWB.out, H2.out, H1.out, HE2.out, HE.out⟩
       case measure => simp [intOf]; omega
    ·have hk16 : k = 16 := by omega
     have hk17 : (k : Int) = 16 := by omega
     rw [hk17]
     clear hk17
     subst hk16
     have hw0 : qTop m (128 * n) 16 = qSch m (128 * n) 0 := rfl
     rw [hw0] at hbw
     have HWB := jh hbw
     have H1 := jh hb1
     have H2 := jh hb2
     have HE := jh hbel
     have HE2 := jh he2
     clear hbw hb1 hb2 hbel he2 hwl hw0
     go_wp2_with fail
     obtain ⟨wo, rfl⟩ : ∃ wo : World, wo = wr := ⟨_, rfl⟩
     go_loopw [9] (fun iv wr => ∃ (q : Nat), q ≤ 64 ∧ iv = .int .i64 ((16 + q : Nat) : Int) ∧ Blk wr D (ints .u64 (qs (qSch m (128 * n) q))) 137 ∧ Blk wr (A + 1) (ints .u64 (qs (gRun m n))) 135 ∧ Blk wr A (ints .u8 (List.replicate 64 0)) 26 ∧ MsgAt w2.heap.size b' off m wr ∧ Ext w wr) (fun iv _ => 80 - (intOf iv).toNat)
     case atStart => exact ⟨0, by omega, rfl, HWB.out, H2.out, H1.out, HE2.out, HE.out⟩
     case round =>
      clear H1 H2 HE HE2 HWB
      obtain ⟨q, hq, rfl, hbw, hb2, hb1, he2, hbel⟩ := hrel
      by_cases hlq : q < 64
      ·obtain ⟨i, hi⟩ : ∃ i : Nat, i = 16 + q := ⟨_, rfl⟩
       rw [← hi]
       have i0 : (16 : Int) ≤ (i : Int) := by omega
       have i1 : (i : Int) < 80 := by omega
       have hwl := zdj m (128 * n) q
       obtain ⟨j16, hj16⟩ : ∃ j : Nat, j = i - 16 := ⟨_, rfl⟩
       obtain ⟨j15, hj15⟩ : ∃ j : Nat, j = i - 15 := ⟨_, rfl⟩
       obtain ⟨j7, hj7⟩ : ∃ j : Nat, j = i - 7 := ⟨_, rfl⟩
       obtain ⟨j2, hj2⟩ : ∃ j : Nat, j = i - 2 := ⟨_, rfl⟩
       have g16 : (i : Int) - 16 = (j16 : Int) := by omega
       have g15 : (i : Int) - 15 = (j15 : Int) := by omega
       have g7 : (i : Int) - 7 = (j7 : Int) := by omega
       have g2 : (i : Int) - 2 = (j2 : Int) := by omega
       have l16 : (j16 : Int) < 80 := by omega
       have l15 : (j15 : Int) < 80 := by omega
       have l7 : (j7 : Int) < 80 := by omega
       have l2 : (j2 : Int) < 80 := by omega
       have e16 := hbw.cell j16
       rw [zan (by rw [zay]; omega), zen] at e16
       have e15 := hbw.cell j15
       rw [zan (by rw [zay]; omega), zen] at e15
       have e7 := hbw.cell j7
       rw [zan (by rw [zay]; omega), zen] at e7
       have e2 := hbw.cell j2
       rw [zan (by rw [zay]; omega), zen] at e2
       have e0 := hbw.cell i
       rw [zan (by rw [zay]; omega), zen] at e0
       have f0 := hbw.free i
       have HST : Hid (qSch m (128 * n) (q + 1) = (qSch m (128 * n) q).set i ((qSch m (128 * n) q).getD j16 0#64 + tg0 ((qSch m (128 * n) q).getD j15 0#64) + (qSch m (128 * n) q).getD j7 0#64 + tg1 ((qSch m (128 * n) q).getD j2 0#64))) := jh (by rw [hi, hj16, hj15, hj7, hj2, hi]; rfl)
       generalize (qSch m (128 * n) q).getD j16 0#64 = y16 at *
       generalize (qSch m (128 * n) q).getD j15 0#64 = y15 at *
       generalize (qSch m (128 * n) q).getD j7 0#64 = y7 at *
       generalize (qSch m (128 * n) q).getD j2 0#64 = y2 at *
       generalize (qSch m (128 * n) q).getD i 0#64 = y0 at *
       have HWB := jh hbw
       have H1 := jh hb1
       have H2 := jh hb2
       have HE := jh hbel
       have HE2 := jh he2
       have HI := jh hi
       clear hbw hb1 hb2 hbel he2 hwl hi hj16 hj15 hj7 hj2 hq
       go_wp2_with fail
       have w16 : IntKind.i64.wrap (j16 : Int) = (j16 : Int) := IntWalk.i64_in _ (by omega)
       have w7 : IntKind.i64.wrap (j7 : Int) = (j7 : Int) := IntWalk.i64_in _ (by omega)
       have z16 : (0 : Int) ≤ (j16 : Int) := Int.natCast_nonneg _
       have z7 : (0 : Int) ≤ (j7 : Int) := Int.natCast_nonneg _
       go_still_tail 29, (by kernel_rfl)
       still_call ((rot_any _ 1 (by omega) _).mono fun _ _ h => ⟨h.1, h.2.symm⟩)
       repeat still_step
       still_call ((rot_any _ 8 (by omega) _).mono fun _ _ h => ⟨h.1, h.2.symm⟩)
       repeat still_step
       still_call ((rot_any _ 19 (by omega) _).mono fun _ _ h => ⟨h.1, h.2.symm⟩)
       repeat still_step
       still_call ((rot_any _ 61 (by omega) _).mono fun _ _ h => ⟨h.1, h.2.symm⟩)
       repeat still_step
       try refine wpStill_nil ?_
       change wpList _ _ _ _ _ wr.drew
       have e0d : (wr.drew).cell? ⟨D, i, none⟩ = some (.int .u64 (qi y0)) := e0
       have f0d : (wr.drew).frozen? ⟨D, i, none⟩ = false := f0
       have HWB : Hid (Blk wr.drew D _ _) := jh HWB.out
       have H1 : Hid (Blk wr.drew A _ _) := jh H1.out
       have H2 : Hid (Blk wr.drew (A + 1) _ _) := jh H2.out
       have HE : Hid (Ext w wr.drew) := jh (HE.out.trans (Ext.drew wr))
       have HE2 : Hid (MsgAt w2.heap.size b' off m wr.drew) := jh (HE2.out.ext (Ext.drew wr))
       clear e0 f0
       generalize wr.drew = w4 at *
       have z0 : (0 : Int) ≤ (i : Int) := by omega
       have x1 : bits .xor .u64 (bits .xor .u64 (qi (rotq y15 1)) (qi (rotq y15 8))) (qi y15 / 128) = qi (tg0 y15) := by rw [show (128 : Int) = 2 ^ 7 from rfl, qi_shr, zed, zed]; rfl
       have x2 : bits .xor .u64 (bits .xor .u64 (qi (rotq y2 19)) (qi (rotq y2 61))) (qi y2 / 64) = qi (tg1 y2) := by rw [show (64 : Int) = 2 ^ 6 from rfl, qi_shr, zed, zed]; rfl
       have HX1 := jh x1
       have HX2 := jh x2
       clear x1 x2 w16 w7 z16 z7
       have HWS : Hid (IntKind.u64.wrap (IntKind.u64.wrap (IntKind.u64.wrap (qi y16 + qi (tg0 y15)) + qi y7) + qi (tg1 y2)) = qi (y16 + tg0 y15 + y7 + tg1 y2)) := jh (by rw [zcy, zcy, zcy])
       rw [HX1.out, HX2.out]
       go_wp2_with fail
       go_roundw
       case rel =>
        refine ⟨q + 1, by omega, by have := HI.out; subst this; go_num, ?_, H2.out.far (by simp <;> omega) _, H1.out.far (by simp <;> omega) _, HE2.out.far (by have := HBS.out; simp; omega) _, Below.setCell HE.out (by simp <;> omega) _⟩
        rw [HST.out, ← qs_set, ← HWS.out]
        exact HWB.out.seti i _
       case measure => simp [intOf]; omega
      ·have hq48 : q = 64 := by omega
       subst hq48
       have HWB := jh hbw
       have H1 := jh hb1
       have H2 := jh hb2
       have HE := jh hbel
       have HE2 := jh he2
       have HHR : Hid (gRun m (n + 1) = qAdd (gRun m n) (qRun (gRun m n) (qSch m (128 * n) 64) 80) 8) := jh rfl
       have HH8 := jh (zdc m n)
       have HW64 := jh (zdj m (128 * n) 64)
       clear hbw hb2 hb1 he2 hbel
       generalize qSch m (128 * n) 64 = W at *
       generalize gRun m n = h at *
       have HIh : Hid ((Tryz.prog.info? 135).map (·.size) = some (ints .u64 (qs h)).length) := jh (by rw [zaa, zay, HH8.out]; exact Tryz.arr135)
       have HEZ := jh (Blk.made wr (ints .u64 (List.replicate 8 0)) 135)
       have HWL := jh HWB.out.lt
       have H1L := jh H1.out.lt
       have H2L := jh H2.out.lt
       have K1 := jh (H1.out.alloc (.cells (ints .u64 (List.replicate 8 0)).toArray 135))
       have K2 := jh (H2.out.alloc (.cells (ints .u64 (List.replicate 8 0)).toArray 135))
       have KW := jh (HWB.out.alloc (.cells (ints .u64 (List.replicate 8 0)).toArray 135))
       have HS := jh HE.out.size
       have HS2 := jh HE2.out.2.1
       have KE := jh (HE.out.trans (Ext.alloc wr (.cells (ints .u64 (List.replicate 8 0)).toArray 135)))
       have KE2 := jh (HE2.out.ext (Ext.alloc wr (.cells (ints .u64 (List.replicate 8 0)).toArray 135)))
       have HLh : Hid ((ints .u64 (qs h)).length = (ints .u64 (List.replicate 8 0)).length) := jh (by rw [zaa, zay, HH8.out, zaa, q133])
       go_upto_region 21 with (first | (refine slb (A + 1) H2.out q168 HIh.out ?_) | (refine ssb wr.heap.size (ints .u64 (qs h)) HEZ.out HLh.out HIh.out (zaj _ _) ?_; intro wq hbq hgq))
       have H1 := jh (K1.out.grown hgq (by have := H1L.out; simp; omega))
       have H2 := jh (K2.out.grown hgq (by have := H2L.out; simp; omega))
       have HWB := jh (KW.out.grown hgq (by have := HWL.out; simp; omega))
       have HE := jh (zab KE.out hgq HS.out)
       have HE2 := jh (KE2.out.grown hgq (by have := HBS.out; have := HS2.out; simp; omega))
       have HVB := jh hbq
       have HDE : Hid (D < wr.heap.size) := HWL
       have HAE : Hid (A + 1 < wr.heap.size) := H2L
       generalize wr.heap.size = E at *
       clear hbq hgq HEZ H1L H2L K1 K2 KW KE KE2 HLh HS
       go_wp2_with fail
       obtain ⟨wo, rfl⟩ : ∃ wo : World, wo = wq := ⟨_, rfl⟩
       go_loopw [13] (fun iv wr => ∃ (k : Nat), k ≤ 80 ∧ iv = .int .i64 (k : Int) ∧ Blk wr E (ints .u64 (qs (qRun h W k))) 135 ∧ Blk wr D (ints .u64 (qs W)) 137 ∧ Blk wr (A + 1) (ints .u64 (qs h)) 135 ∧ Blk wr A (ints .u8 (List.replicate 64 0)) 26 ∧ MsgAt w2.heap.size b' off m wr ∧ Ext w wr) (fun iv _ => 80 - (intOf iv).toNat)
       case atStart => exact ⟨0, by omega, rfl, HVB.out, HWB.out, H2.out, H1.out, HE2.out, HE.out⟩
       case round =>
        clear HVB HWB H1 H2 HE HE2
        obtain ⟨k, hk, rfl, hbv, hbw, hb2, hb1, he2, hbel⟩ := hrel
        have HVB := jh hbv
        have HWB := jh hbw
        have H1 := jh hb1
        have H2 := jh hb2
        have HE := jh hbel
        have HE2 := jh he2
        have HVL := jh (qRun_length h W HH8.out k)
        have k0 : (0 : Int) ≤ (k : Int) := Int.natCast_nonneg _
        clear hbv hbw hb2 hb1 he2 hbel
        by_cases hlr : k < 80
        ·have kr : (k : Int) < 80 := by omega
         have HWK : Hid (∀ w', Blk w' D (ints .u64 (qs W)) 137 → w'.cell? ⟨D, k, none⟩ = some (.int .u64 (qi (W.getD k 0#64)))) := jh (fun w' h => blk_q h (by rw [HW64.out]; exact hlr))
         have HKK : Hid (∀ w', Ext wr w' → w'.cell? ⟨4, k, none⟩ = some (.int .u64 (qi (K512.getD k 0#64)))) := jh (fun w' h => (HG.out.ext (HE.out.trans h)).cell hlr)
         have HRN : Hid (qRun h W (k + 1) = rndq (qRun h W k) (K512.getD k 0#64) (W.getD k 0#64)) := jh rfl
         unfold rndq at HRN
         generalize K512.getD k 0#64 = kk at *
         generalize W.getD k 0#64 = wk at *
         generalize qRun h W k = vv at *
         have HVC : Hid (∀ j, j < 8 → ∀ w', Blk w' E (ints .u64 (qs vv)) 135 → ∀ x, x = vv.getD j 0#64 → w'.cell? ⟨E, j, none⟩ = some (.int .u64 (qi x))) := jh (fun j hj w' hb x hx => by rw [hx]; exact blk_q hb (by rw [HVL.out]; exact hj))
         have hvb := HVB.out
         have b0 := blk_q hvb (j := 0) (by rw [HVL.out]; omega)
         have b1 := blk_q hvb (j := 1) (by rw [HVL.out]; omega)
         have b2 := blk_q hvb (j := 2) (by rw [HVL.out]; omega)
         have b3 := blk_q hvb (j := 3) (by rw [HVL.out]; omega)
         have b4 := blk_q hvb (j := 4) (by rw [HVL.out]; omega)
         have b5 := blk_q hvb (j := 5) (by rw [HVL.out]; omega)
         have b6 := blk_q hvb (j := 6) (by rw [HVL.out]; omega)
         have b7 := blk_q hvb (j := 7) (by rw [HVL.out]; omega)
         obtain ⟨v0, hv0⟩ : ∃ x, x = vv.getD 0 0#64 := ⟨_, rfl⟩
         have HVE0 := jh hv0
         rw [← hv0] at b0 HRN
         clear hv0
         obtain ⟨v1, hv1⟩ : ∃ x, x = vv.getD 1 0#64 := ⟨_, rfl⟩
         have HVE1 := jh hv1
         rw [← hv1] at b1 HRN
         clear hv1
         obtain ⟨v2, hv2⟩ : ∃ x, x = vv.getD 2 0#64 := ⟨_, rfl⟩
         have HVE2 := jh hv2
         rw [← hv2] at b2 HRN
         clear hv2
         obtain ⟨v3, hv3⟩ : ∃ x, x = vv.getD 3 0#64 := ⟨_, rfl⟩
         have HVE3 := jh hv3
         rw [← hv3] at b3 HRN
         clear hv3
         obtain ⟨v4, hv4⟩ : ∃ x, x = vv.getD 4 0#64 := ⟨_, rfl⟩
         have HVE4 := jh hv4
         rw [← hv4] at b4 HRN
         clear hv4
         obtain ⟨v5, hv5⟩ : ∃ x, x = vv.getD 5 0#64 := ⟨_, rfl⟩
         have HVE5 := jh hv5
         rw [← hv5] at b5 HRN
         clear hv5
         obtain ⟨v6, hv6⟩ : ∃ x, x = vv.getD 6 0#64 := ⟨_, rfl⟩
         have HVE6 := jh hv6
         rw [← hv6] at b6 HRN
         clear hv6
         obtain ⟨v7, hv7⟩ : ∃ x, x = vv.getD 7 0#64 := ⟨_, rfl⟩
         have HVE7 := jh hv7
         rw [← hv7] at b7 HRN
         clear hv7
         clear hvb
         go_wp2_with fail
         refine zbb (by kernel_rfl) (by kernel_rfl) ?_
         refine sdi E 8 7 q168 (by omega) (q106) ?_
         simp only [nm]
         refine sdl E 7 (.int .u64 (qi v7)) (fun w hw => HVC.out 7 (by omega) _ (zad HVB.out hw) _ HVE7.out) (q105) ?_
         simp only [nm]
         refine zas _ (.int .u64 (qi v4)) (by rfl) rfl rfl ?_
         simp only [nm]
         refine sdc [.int .u64 (qi v4), .int .u64 14] (.int .u64 (qi (rotq v4 14))) Tryz.call105 (fun w hw => rot_ext v4 14 (by omega) w) ?_
         simp only [nm]
         refine zas _ (.int .u64 (qi v4)) (by rfl) rfl rfl ?_
         simp only [nm]
         refine sdc [.int .u64 (qi v4), .int .u64 18] (.int .u64 (qi (rotq v4 18))) Tryz.call105 (fun w hw => rot_ext v4 18 (by omega) w) ?_
         simp only [nm]
         refine det_xor _ _ _ _ _ _ _ (qi ((rotq v4 14) ^^^ (rotq v4 18))) (by rfl) rfl rfl rfl (zed _ _) ?_
         simp only [nm]
         refine zas _ (.int .u64 (qi v4)) (by rfl) rfl rfl ?_
         simp only [nm]
         refine sdc [.int .u64 (qi v4), .int .u64 41] (.int .u64 (qi (rotq v4 41))) Tryz.call105 (fun w hw => rot_ext v4 41 (by omega) w) ?_
         simp only [nm]
         refine det_xor _ _ _ _ _ _ _ (qi (((rotq v4 14) ^^^ (rotq v4 18)) ^^^ (rotq v4 41))) (by rfl) rfl rfl rfl (zed _ _) ?_
         simp only [nm]
         refine zfm _ _ _ _ _ _ _ (qi (v7 + (((rotq v4 14) ^^^ (rotq v4 18)) ^^^ (rotq v4 41)))) (by rfl) rfl rfl rfl (zcy _ _) ?_
         simp only [nm]
         refine zas _ (.int .u64 (qi v4)) (by rfl) rfl rfl ?_
         simp only [nm]
         refine sdi E 8 5 q168 (by omega) (q106) ?_
         simp only [nm]
         refine sdl E 5 (.int .u64 (qi v5)) (fun w hw => HVC.out 5 (by omega) _ (zad HVB.out hw) _ HVE5.out) (q105) ?_
         simp only [nm]
         refine zfl _ _ _ _ _ _ _ (qi (v4 &&& v5)) (by rfl) rfl rfl rfl (qi_and _ _) ?_
         simp only [nm]
         refine zas _ (.int .u64 (qi v4)) (by rfl) rfl rfl ?_
         simp only [nm]
         refine det_qinot _ _ v4 (by rfl) rfl rfl ?_
         simp only [nm]
         refine sdi E 8 6 q168 (by omega) (q106) ?_
         simp only [nm]
         refine sdl E 6 (.int .u64 (qi v6)) (fun w hw => HVC.out 6 (by omega) _ (zad HVB.out hw) _ HVE6.out) (q105) ?_
         simp only [nm]
         refine zfl _ _ _ _ _ _ _ (qi ((~~~v4) &&& v6)) (by rfl) rfl rfl rfl (qi_and _ _) ?_
         simp only [nm]
         refine det_xor _ _ _ _ _ _ _ (qi ((v4 &&& v5) ^^^ ((~~~v4) &&& v6))) (by rfl) rfl rfl rfl (zed _ _) ?_
         simp only [nm]
         refine zfm _ _ _ _ _ _ _ (qi ((v7 + (((rotq v4 14) ^^^ (rotq v4 18)) ^^^ (rotq v4 41))) + ((v4 &&& v5) ^^^ ((~~~v4) &&& v6)))) (by rfl) rfl rfl rfl (zcy _ _) ?_
         simp only [nm]
         refine zas _ (.int .i64 ((k : Nat) : Int)) (by rfl) rfl rfl ?_
         simp only [nm]
         refine sdi 4 80 k q167 (by omega) (q106) ?_
         simp only [nm]
         refine sdl 4 k (.int .u64 (qi kk)) (fun w hw => HKK.out _ hw) (q105) ?_
         simp only [nm]
         refine zfm _ _ _ _ _ _ _ (qi (((v7 + (((rotq v4 14) ^^^ (rotq v4 18)) ^^^ (rotq v4 41))) + ((v4 &&& v5) ^^^ ((~~~v4) &&& v6))) + kk)) (by rfl) rfl rfl rfl (zcy _ _) ?_
         simp only [nm]
         refine zas _ (.int .i64 ((k : Nat) : Int)) (by rfl) rfl rfl ?_
         simp only [nm]
         refine sdi D 80 k q167 (by omega) (q106) ?_
         simp only [nm]
         refine sdl D k (.int .u64 (qi wk)) (fun w hw => HWK.out _ (zad HWB.out hw)) (q105) ?_
         simp only [nm]
         refine zfm _ _ _ _ _ _ _ (qi ((((v7 + (((rotq v4 14) ^^^ (rotq v4 18)) ^^^ (rotq v4 41))) + ((v4 &&& v5) ^^^ ((~~~v4) &&& v6))) + kk) + wk)) (by rfl) rfl rfl rfl (zcy _ _) ?_
         simp only [nm]
         refine zbi _ (.int .u64 (qi ((((v7 + (((rotq v4 14) ^^^ (rotq v4 18)) ^^^ (rotq v4 41))) + ((v4 &&& v5) ^^^ ((~~~v4) &&& v6))) + kk) + wk))) (by rfl) rfl rfl ?_
         simp only [nm]
         refine zao (fun wx hx => ?_)
         have HVB := xb HVB hx
         have HWB := xb HWB hx
         have H1 := xb H1 hx
         have H2 := xb H2 hx
         have HE2 := jh (HE2.out.ext hx)
         have HE := xt HE hx
         clear hx
         generalize ht : (((v7 + (((rotq v4 14) ^^^ (rotq v4 18)) ^^^ (rotq v4 41))) + ((v4 &&& v5) ^^^ ((~~~v4) &&& v6))) + kk) + wk = t at *
         have HT := jh ht
         clear ht
         go_wp2_with fail
         refine zbb (by kernel_rfl) (by kernel_rfl) ?_
         refine zas _ (.int .u64 (qi v0)) (by rfl) rfl rfl ?_
         simp only [nm]
         refine sdc [.int .u64 (qi v0), .int .u64 28] (.int .u64 (qi (rotq v0 28))) Tryz.call105 (fun w hw => rot_ext v0 28 (by omega) w) ?_
         simp only [nm]
         refine zas _ (.int .u64 (qi v0)) (by rfl) rfl rfl ?_
         simp only [nm]
         refine sdc [.int .u64 (qi v0), .int .u64 34] (.int .u64 (qi (rotq v0 34))) Tryz.call105 (fun w hw => rot_ext v0 34 (by omega) w) ?_
         simp only [nm]
         refine det_xor _ _ _ _ _ _ _ (qi ((rotq v0 28) ^^^ (rotq v0 34))) (by rfl) rfl rfl rfl (zed _ _) ?_
         simp only [nm]
         refine zas _ (.int .u64 (qi v0)) (by rfl) rfl rfl ?_
         simp only [nm]
         refine sdc [.int .u64 (qi v0), .int .u64 39] (.int .u64 (qi (rotq v0 39))) Tryz.call105 (fun w hw => rot_ext v0 39 (by omega) w) ?_
         simp only [nm]
         refine det_xor _ _ _ _ _ _ _ (qi (((rotq v0 28) ^^^ (rotq v0 34)) ^^^ (rotq v0 39))) (by rfl) rfl rfl rfl (zed _ _) ?_
         simp only [nm]
         refine zas _ (.int .u64 (qi v0)) (by rfl) rfl rfl ?_
         simp only [nm]
         refine sdi E 8 1 q168 (by omega) (q106) ?_
         simp only [nm]
         refine sdl E 1 (.int .u64 (qi v1)) (fun w hw => HVC.out 1 (by omega) _ (zad HVB.out hw) _ HVE1.out) (q105) ?_
         simp only [nm]
         refine zfl _ _ _ _ _ _ _ (qi (v0 &&& v1)) (by rfl) rfl rfl rfl (qi_and _ _) ?_
         simp only [nm]
         refine zas _ (.int .u64 (qi v0)) (by rfl) rfl rfl ?_
         simp only [nm]
         refine sdi E 8 2 q168 (by omega) (q106) ?_
         simp only [nm]
         refine sdl E 2 (.int .u64 (qi v2)) (fun w hw => HVC.out 2 (by omega) _ (zad HVB.out hw) _ HVE2.out) (q105) ?_
         simp only [nm]
         refine zfl _ _ _ _ _ _ _ (qi (v0 &&& v2)) (by rfl) rfl rfl rfl (qi_and _ _) ?_
         simp only [nm]
         refine det_xor _ _ _ _ _ _ _ (qi ((v0 &&& v1) ^^^ (v0 &&& v2))) (by rfl) rfl rfl rfl (zed _ _) ?_
         simp only [nm]
         refine sdi E 8 1 q168 (by omega) (q106) ?_
         simp only [nm]
         refine sdl E 1 (.int .u64 (qi v1)) (fun w hw => HVC.out 1 (by omega) _ (zad HVB.out hw) _ HVE1.out) (q105) ?_
         simp only [nm]
         refine sdi E 8 2 q168 (by omega) (q106) ?_
         simp only [nm]
         refine sdl E 2 (.int .u64 (qi v2)) (fun w hw => HVC.out 2 (by omega) _ (zad HVB.out hw) _ HVE2.out) (q105) ?_
         simp only [nm]
         refine zfl _ _ _ _ _ _ _ (qi (v1 &&& v2)) (by rfl) rfl rfl rfl (qi_and _ _) ?_
         simp only [nm]
         refine det_xor _ _ _ _ _ _ _ (qi (((v0 &&& v1) ^^^ (v0 &&& v2)) ^^^ (v1 &&& v2))) (by rfl) rfl rfl rfl (zed _ _) ?_
         simp only [nm]
         refine zfm _ _ _ _ _ _ _ (qi ((((rotq v0 28) ^^^ (rotq v0 34)) ^^^ (rotq v0 39)) + (((v0 &&& v1) ^^^ (v0 &&& v2)) ^^^ (v1 &&& v2)))) (by rfl) rfl rfl rfl (zcy _ _) ?_
         simp only [nm]
         refine zbi _ (.int .u64 (qi ((((rotq v0 28) ^^^ (rotq v0 34)) ^^^ (rotq v0 39)) + (((v0 &&& v1) ^^^ (v0 &&& v2)) ^^^ (v1 &&& v2))))) (by rfl) rfl rfl ?_
         simp only [nm]
         refine zao (fun wy hy => ?_)
         have HVB := xb HVB hy
         have HWB := xb HWB hy
         have H1 := xb H1 hy
         have H2 := xb H2 hy
         have HE2 := jh (HE2.out.ext hy)
         have HE := xt HE hy
         clear hy
         generalize hu : (((rotq v0 28) ^^^ (rotq v0 34)) ^^^ (rotq v0 39)) + (((v0 &&& v1) ^^^ (v0 &&& v2)) ^^^ (v1 &&& v2)) = u at *
         have HU := jh hu
         clear hu
         clear b0 b1 b2 b3 b4 b5 b6 b7
         have b1 := HVC.out 1 (by omega) _ HVB.out _ HVE1.out
         have b2 := HVC.out 2 (by omega) _ HVB.out _ HVE2.out
         have b3 := HVC.out 3 (by omega) _ HVB.out _ HVE3.out
         have b5 := HVC.out 5 (by omega) _ HVB.out _ HVE5.out
         have b6 := HVC.out 6 (by omega) _ HVB.out _ HVE6.out
         have q7 : (qi t + qi u) % 18446744073709551616 = qi (t + u) := by rw [← zcy, IntKind.wrap_u64]
         have q8 : (qi v3 + qi t) % 18446744073709551616 = qi (v3 + t) := by rw [← zcy, IntKind.wrap_u64]
         have HVN : Hid (qRun h W (k + 1) = [t + u, v0, v1, v2, v3 + t, v4, v5, v6]) := jh (by rw [HRN.out, ← HT.out, ← HU.out])
         clear HRN
         have HLn : Hid ((ints .u64 (qs [t + u, v0, v1, v2, v3 + t, v4, v5, v6])).length = (ints .u64 (qs vv)).length) := jh (by rw [zaa, zay, zaa, zay, HVL.out]; rfl)
         have HIn : Hid ((Tryz.prog.info? 135).map (·.size) = some (ints .u64 (qs [t + u, v0, v1, v2, v3 + t, v4, v5, v6])).length) := jh Tryz.arr135
         go_wp2_with (refine ssb E (ints .u64 (qs [t + u, v0, v1, v2, v3 + t, v4, v5, v6])) HVB.out HLn.out HIn.out (zaj _ _) ?_; intro wz hbz hgz)
         go_roundw
         case rel => exact ⟨k + 1, by omega, by go_num, by rw [HVN.out]; exact hbz, HWB.out.grown hgz (by have := HDE.out; simp; omega), H2.out.grown hgz (by have := HAE.out; simp; omega), H1.out.grown hgz (by have := HAE.out; simp; omega), HE2.out.grown hgz (by have := HBS.out; have := HS2.out; simp; omega), zab HE.out hgz (by have := HAE.out; omega)⟩
         case measure => simp [intOf]; omega
        ·have hk64 : k = 80 := by omega
         have hk65 : (k : Int) = 80 := by omega
         rw [hk65]
         clear hk65
         subst hk64
         generalize qRun h W 80 = vv at *
         go_wp2_with fail
         obtain ⟨wo2, rfl⟩ : ∃ wo : World, wo = wr := ⟨_, rfl⟩
         go_loopw [18] (fun iv wr => ∃ (j : Nat), j ≤ 8 ∧ iv = .int .i64 (j : Int) ∧ Blk wr E (ints .u64 (qs vv)) 135 ∧ Blk wr (A + 1) (ints .u64 (qs (qAdd h vv j))) 135 ∧ Blk wr A (ints .u8 (List.replicate 64 0)) 26 ∧ MsgAt w2.heap.size b' off m wr ∧ Ext w wr) (fun iv _ => 8 - (intOf iv).toNat)
         case atStart => exact ⟨0, by omega, rfl, HVB.out, H2.out, H1.out, HE2.out, HE.out⟩
         case round =>
          clear HVB H2 H1 HE2 HE
          obtain ⟨j, hj, rfl, hbv, hb2, hb1, he2, hbel⟩ := hrel
          have j0 : (0 : Int) ≤ (j : Int) := Int.natCast_nonneg _
          by_cases hj8 : j < 8
          ·have j1 : (j : Int) < 8 := by omega
           have e1 := blk_q hb2 (j := j) (by rw [qAdd_length, HH8.out]; exact hj8)
           have e2 := blk_q hbv (j := j) (by rw [HVL.out]; exact hj8)
           have f1 := hb2.free j
           have HST : Hid (qs (qAdd h vv (j + 1)) = (qs (qAdd h vv j)).set j (qi ((qAdd h vv j).getD j 0#64 + vv.getD j 0#64))) := jh (by rw [qs_set, qAdd])
           generalize (qAdd h vv j).getD j 0#64 = p1 at *
           generalize vv.getD j 0#64 = p2 at *
           have q1 : (qi p1 + qi p2) % 18446744073709551616 = qi (p1 + p2) := by rw [← zcy, IntKind.wrap_u64]
           have HQ1 := jh q1
           have HVB := jh hbv
           have H1 := jh hb1
           have H2 := jh hb2
           have HE := jh hbel
           have HE2 := jh he2
           clear hbv hb1 hb2 hbel he2 q1
           go_wp2_with fail
           go_region
           go_wp2_with fail
           go_roundw
           case rel =>
            refine ⟨j + 1, by omega, by go_num, (HVB.out.far (by have := HAE.out; simp; omega) _).drewN 1, ?_, (H1.out.far (by simp <;> omega) _).drewN 1, (HE2.out.far (by have := HBA.out; simp; omega) _).drew, (Below.setCell HE.out (by simp <;> omega) _).drew⟩
            rw [HST.out, ← HQ1.out]
            exact (H2.out.seti j _).drewN 1
           case measure => simp [intOf]; omega
          ·have hj9 : j = 8 := by omega
           subst hj9
           rw [← HHR.out] at hb2
           have H1 := jh hb1
           have H2 := jh hb2
           have HE := jh hbel
           have HE2 := jh he2
           clear hbv hb1 hb2 hbel he2
           go_wp2_with fail
           go_roundw
           case rel => exact ⟨n + 1, by omega, by rw [show 128 * (n : Int) + 128 = 128 * ((n + 1 : Nat) : Int) from by omega], H2.out, H1.out, HE2.out, HE.out⟩
           case measure => simp [intOf]; omega
  ·have hnN : n = N := by omega
   have hnN2 : (128 : Int) * (n : Int) = 128 * (N : Int) := by omega
   rw [hnN2]
   clear hnN2
   have HRR : Hid (outQ (gRun m N) = sha512 b) := jh (by rw [HM.out, HN.out]; rfl)
   subst hnN
   have HR8 := jh (zdc m n)
   generalize gRun m n = R at *
   have HFZ := jh (Blk.made wr (ints .u8 (List.replicate 64 0)) 26)
   have H1L := jh hb1.lt
   have H2L := jh hb2.lt
   have K1 := jh (hb1.alloc (.cells (ints .u8 (List.replicate 64 0)).toArray 26))
   have K2 := jh (hb2.alloc (.cells (ints .u8 (List.replicate 64 0)).toArray 26))
   have HS := jh hbel.size
   have KE := jh (hbel.trans (Ext.alloc wr (.cells (ints .u8 (List.replicate 64 0)).toArray 26)))
   clear hb1 hb2 hbel he2
   go_upto_region 34 with (fail)
   change Code.wp _ _ _ _ (wr.alloc (.cells (ints .u8 (List.replicate 64 0)).toArray 26))
   generalize wr.alloc (.cells (ints .u8 (List.replicate 64 0)).toArray 26) = wf at *
   have HAF : Hid (A + 1 < wr.heap.size) := H2L
   generalize wr.heap.size = F at *
   obtain ⟨o, ho⟩ : ∃ o, o = outQ R := ⟨_, rfl⟩
   have HOL : Hid (o.length = 64) := jh (by rw [ho, outQ_length])
   have HOO := jh ho
   have HOS : Hid (o = sha512 b) := jh (by rw [ho]; exact HRR.out)
   clear ho HRR H1L H2L
   go_wp2_with fail
   go_loopw [20] (fun iv wr => ∃ (j : Nat), j ≤ 64 ∧ iv = .int .i64 (j : Int) ∧ Blk wr F ((fill 64 o j).map bval) 26 ∧ Blk wr (A + 1) (ints .u64 (qs R)) 135 ∧ Blk wr A (ints .u8 (List.replicate 64 0)) 26 ∧ Ext w wr) (fun iv _ => 64 - (intOf iv).toNat)
   case atStart => exact ⟨0, by omega, rfl, by rw [fill_start]; exact HFZ.out, K2.out, K1.out, KE.out⟩
   case round =>
    clear HFZ K2 K1 KE
    obtain ⟨j, hj, rfl, hbf, hb2, hb1, hbel⟩ := hrel
    have j0 : (0 : Int) ≤ (j : Int) := Int.natCast_nonneg _
    by_cases hj32 : j < 64
    ·have j1 : (j : Int) < 64 := by omega
     obtain ⟨q, hq⟩ : ∃ q : Nat, q = j / 8 := ⟨_, rfl⟩
     obtain ⟨r, hr⟩ : ∃ r : Nat, r = j % 8 := ⟨_, rfl⟩
     obtain ⟨s, hs⟩ : ∃ s : Nat, s = 56 - 8 * r := ⟨_, rfl⟩
     have hq1 : (j : Int) / 8 = (q : Int) := by omega
     have hr1 : (j : Int) % 8 = (r : Int) := by omega
     have hs1 : 56 - 8 * (r : Int) = (s : Int) := by omega
     have hq8 : (q : Int) < 8 := by omega
     have q0 : (0 : Int) ≤ (q : Int) := Int.natCast_nonneg _
     have r0 : (0 : Int) ≤ (r : Int) := Int.natCast_nonneg _
     have r4 : (r : Int) < 8 := by omega
     have s0 : (0 : Int) ≤ (s : Int) := Int.natCast_nonneg _
     have s25 : (s : Int) ≤ 56 := by omega
     have e1 := blk_q hb2 (j := q) (by rw [HR8.out]; omega)
     have hof := outQ_getD R j hj32
     rw [← hq, ← hr, ← hs, ← HOO.out] at hof
     generalize R.getD q 0#64 = x at *
     have hxr := qi_range x
     have e2 := hbf.cell j
     rw [zbg (by rw [fill_length HOL.out (by omega)]; exact hj32)] at e2
     have f2 := hbf.free j
     have HFS : ∀ z : Int, z = ((o.getD j 0).toNat : Int) → _ := fun z hz => zex HOL.out hj32 hz
     have HFS := jh HFS
     have hza : bits .and .u64 (qi x / 2 ^ s) 255 % 256 = ((o.getD j 0).toNat : Int) := by
      rw [hof, UInt8.toNat_ofNat', qi_shr, and_q_255]
      rw [BitVec.toNat_ushiftRight, Nat.shiftRight_eq_div_pow]
      omega
     have HZA := jh hza
     have HF := jh hbf
     have H1 := jh hb1
     have H2 := jh hb2
     have HE := jh hbel
     clear hbf hb1 hb2 hbel hof hza hq hr hs
     generalize ((fill 64 o j).getD j 0) = z2 at *
     generalize qi x = zx at *
     go_wp2_with fail
     go_roundw
     case rel =>
      refine ⟨j + 1, by omega, by go_num, ?_, H2.out.far (by have := HAF.out; simp; omega) _, H1.out.far (by have := HAF.out; simp; omega) _, Below.setCell HE.out (by have := HAF.out; simp; omega) _⟩
      rw [← HFS.out _ HZA.out]
      exact HF.out.set j _
     case measure => simp [intOf]; omega
    ·have hj9 : j = 64 := by omega
     subst hj9
     rw [fill_full HOL.out] at hbf
     have H1 := jh hb1
     have HF := jh hbf
     have HE := jh hbel
     clear hbf hb1 hb2 hbel
     have HIo : Hid ((Tryz.prog.info? 26).map (·.size) = some (o.map bval).length) := jh (zcg HOL.out)
     have HLo : Hid ((o.map bval).length = (ints .u8 (List.replicate 64 0)).length) := jh (by rw [q101, HOL.out, zaa, q133])
     go_wp2_with (first | (refine slb F HF.out q119 HIo.out ?_) | (refine ssb A (o.map bval) H1.out HLo.out HIo.out (zaf _) ?_; intro w7 hb7 hg7))
     refine bodyPost_ret (zbc rfl _ A _ _ _ _ rfl hb7 q119 HIo.out) rfl ?_
     exact ⟨by rw [HOS.out], zab HE.out hg7 (by omega)⟩
