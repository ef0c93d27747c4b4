/- The walk of the code's rest modulo the group order. Each theorem names its own conditions. -/
import Derived.Test.YtoebokeehhfboaaDoorSclRestM
import Derived.Test.YtoebokeehhfboaaDoorSclCar
import Derived.Deep.CutRange
namespace Go.Proofs.YtoebokeehhfboaaDoor
open Go.RowKit
set_option linter.unusedVariables false
set_option linter.unusedSimpArgs false

/-- The variable tail reads as the text lays it. -/
def GlobT (w : World) : Prop := w.rangeAt 1 0 (ints .i64 TAIL)
theorem glob_ext {w w' : World} {b : Nat} {v : Value} {vs : List Value} (h : w.rangeAt b 0 (v :: vs)) (hb : Ext w w') : w'.rangeAt b 0 (v :: vs) := by
  have h0 := h 0 v rfl
  have hl : b < w.heap.size := by
    apply Classical.byContradiction
    intro hn
    have e : w.heap[b]? = none := by rw [Array.getElem?_eq_none]; omega
    simp [World.cell?, e] at h0
  intro j u hj
  have h1 := h j u hj
  have e := hb.block b hl
  simpa [World.cell?, e] using h1
theorem GlobT.ext {w w' : World} (h : GlobT w) (hb : Ext w w') : GlobT w' := glob_ext h hb

theorem Tryd.arr46 : (Tryd.prog.info? 46).map (·.size) = some 5 := by kernel_rfl
theorem tail_index (m : Nat) (hm : m < 5) (w : World) : (Instr.index 46 (.agg (ints .i64 TAIL).toArray) (.int .i64 (m : Int))).run Tryd.prog w = .ok (.int .i64 (TAIL.getD m 0)) w := by
  rcases (by omega : m = 0 ∨ m = 1 ∨ m = 2 ∨ m = 3 ∨ m = 4) with rfl | rfl | rfl | rfl | rfl <;> kernel_rfl

theorem sgn_shift (a : Int) (h1 : -1 ≤ a) (h2 : a ≤ 268435456) : ∃ ng : Int, a / 9223372036854775808 = ng ∧ ∀ t : Int, 0 ≤ t → t ≤ 268435456 → bits .and .i64 ng t = (if a < 0 then 1 else 0) * t := by
  by_cases h : a < 0
  · refine ⟨-1, by omega, fun t t0 t1 => ?_⟩
    have e : BitVec.ofInt 64 (-1) = BitVec.allOnes 64 := by decide
    show IntKind.i64.wrap ((BitVec.ofInt 64 (-1) &&& BitVec.ofInt 64 t).toNat : Nat) = _
    rw [e, BitVec.allOnes_and, BitVec.toNat_ofInt, IntKind.wrap_i64, if_pos h]
    omega
  · refine ⟨0, by omega, fun t t0 t1 => ?_⟩
    have e : BitVec.ofInt 64 0 = 0#64 := by decide
    show IntKind.i64.wrap ((BitVec.ofInt 64 0 &&& BitVec.ofInt 64 t).toNat : Nat) = _
    rw [e, BitVec.zero_and, if_neg h]
    simp [IntKind.wrap_i64]

set_option maxRecDepth 100000 in
set_option maxHeartbeats 4000000 in
theorem rest_any (x : List Int) (v : Int) (w : World) (h : RI x 18 v) (hG : GlobT w) :
    Calls Tryd.prog 20 #[.agg (ints .i64 x).toArray] w fun e w' => e = .returned (.agg (ints .i64 (restF x)).toArray) ∧ Below w.heap.size w w' := by
  have HRI := Lib.hid (fun n hn => rRun_RI h n hn)
  have HG := Lib.hid hG
  have HL := Lib.hid h.len
  have HB := Lib.hid (boxes2 w (ints .i64 x) (ints .i64 (List.replicate 19 0)) 36 36)
  have HTI : Hid ((Tryd.prog.info? 46).map (·.size) = some (ints .i64 TAIL).length) := Lib.hid (by rw [ints_length]; exact Tryd.arr46)
  clear h hG
  go_enter Tryd.func20, Tryd.ntmps20
  go_wp2_with fail
  change Code.wp _ _ _ _ ((w.alloc (.cells (ints .i64 x).toArray 36)).alloc (.cells (ints .i64 (List.replicate 19 0)).toArray 36))
  generalize (w.alloc (.cells (ints .i64 x).toArray 36)).alloc (.cells (ints .i64 (List.replicate 19 0)).toArray 36) = w0 at *
  obtain ⟨b1, b2, b3⟩ := HB.out
  obtain ⟨A, hA⟩ : ∃ A, A = w.heap.size := ⟨_, rfl⟩
  rw [← hA] at b1 b2 ⊢
  have hA2 : w.heap.size ≤ A := by omega
  have H1 := Lib.hid b1
  have H2 := Lib.hid b2
  have H3 : Hid (Ext w w0) := Lib.hid b3
  clear b1 b2 b3 hA HB
  go_loopw [3] (fun i wr => ∃ (n : Nat), n ≤ 10 ∧ i = .int .i64 (18 - (n : Int)) ∧ Blk wr A (ints .i64 (rRun x n)) 36 ∧ Blk wr (A + 1) (ints .i64 (List.replicate 19 0)) 36 ∧ Ext w wr) (fun i _ => (intOf i).toNat)
  case atStart => exact ⟨0, by omega, rfl, H1.out, H2.out, H3.out⟩
  case round =>
    clear H1 H2 H3
    obtain ⟨n, hn, rfl, hb1, hb2, hbel⟩ := hrel
    by_cases hlt : n < 10
    · have hi : ∃ i : Nat, i = 18 - n := ⟨_, rfl⟩
      obtain ⟨i, hi⟩ := hi
      have hii : (18 : Int) - (n : Int) = (i : Int) := by omega
      have i9 : (9 : Int) ≤ (i : Int) := by omega
      have i18 : (i : Int) ≤ 18 := by omega
      have j9 : 9 ≤ i := by omega
      have j18 : i ≤ 18 := by omega
      have hri := HRI.out n (by omega)
      rw [← hi] at hri
      have hst : rRun x (n + 1) = rStep (rRun x n) i := by rw [hi]; rfl
      rw [hii]
      generalize rRun x n = y at *
      have HRS := Lib.hid hri
      have HST := Lib.hid hst
      have HYL := Lib.hid hri.len
      have HII := Lib.hid hii
      have HIN := Lib.hid hi
      have H1 := Lib.hid hb1
      have H2 := Lib.hid hb2
      have H3 := Lib.hid hbel
      have HGR : Hid (wr.rangeAt 1 0 (ints .i64 TAIL)) := Lib.hid (HG.out.ext hbel)
      clear hri hst hb1 hb2 hbel hii hi
      go_wp2_with (refine wpList_load_mid rfl _ _ rfl 1 0 rfl (ints .i64 TAIL) _ HGR.out Tryd.underlying46 rfl HTI.out ?_)
      obtain ⟨wo, rfl⟩ : ∃ wo : World, wo = wr := ⟨_, rfl⟩
      go_loopw [14] (fun j wr => ∃ (m : Nat), m ≤ 5 ∧ j = .int .i64 m ∧ Blk wr A (ints .i64 (tRun y i m)) 36 ∧ Blk wr (A + 1) (ints .i64 (List.replicate 19 0)) 36 ∧ Ext w wr) (fun j _ => 5 - (intOf j).toNat)
      case atStart => exact ⟨0, by omega, rfl, H1.out, H2.out, H3.out⟩
      case round =>
        clear H1 H2 H3 HGR
        obtain ⟨m, hm, rfl, hb1, hb2, hbel⟩ := hrel
        have m0 : (0 : Int) ≤ (m : Int) := Int.natCast_nonneg _
        have hlen := tRun_length y i m
        rw [HYL.out] at hlen
        by_cases hlm : m < 5
        · have m1 : (m : Int) < 5 := by omega
          have HIX := tail_index m hlm
          have e1 := hb1.cell (i - 9 + m)
          rw [ints_get (by omega)] at e1
          have e2 := hb1.cell i
          rw [ints_get (by omega)] at e2
          have f1 := hb1.free (i - 9 + m)
          have hst : tRun y i (m + 1) = (tRun y i m).set (i - 9 + m) ((tRun y i m).getD (i - 9 + m) 0 - (tRun y i m).getD i 0 * TAIL.getD m 0) := rfl
          have HST2 := Lib.hid hst
          have q1 := HRS.out.here
          rw [← tRun_top y i j9 m (by omega)] at q1
          have q2 := HRS.out.low (i - 9 + m) (by omega)
          rw [← tRun_far y i m (i - 9 + m) (by omega)] at q2
          have q3 := TAIL_getD m
          generalize (tRun y i m).getD (i - 9 + m) 0 = a at *
          generalize (tRun y i m).getD i 0 = u at *
          generalize TAIL.getD m 0 = t at *
          have p1 : -268435456 ≤ u * t ∧ u * t ≤ 72057594037927936 := by
            constructor
            · rcases Int.le_total 0 u with g2 | g2
              · have := Int.mul_nonneg g2 q3.1
                omega
              · have e1 : u = 0 ∨ u = -1 := by omega
                rcases e1 with rfl | rfl <;> omega
            · rcases Int.le_total 0 u with g2 | g2
              · exact Int.le_trans (Int.mul_le_mul q1.2 (show t ≤ 268435456 by omega) q3.1 (by omega)) (by omega)
              · have : u * t ≤ 0 := Int.mul_nonpos_of_nonpos_of_nonneg g2 q3.1
                omega
          have W1 : Hid (wrap64 (u * t) = u * t) := Lib.hid (by rw [← IntWalk.i64_left]; exact IntWalk.i64_in _ (by omega))
          have W2 : Hid (wrap64 (a - u * t) = a - u * t) := Lib.hid (by rw [← IntWalk.i64_left]; exact IntWalk.i64_in _ (by omega))
          obtain ⟨p, hp⟩ : ∃ p : Nat, p = i - 9 + m := ⟨_, rfl⟩
          rw [← hp] at e1 f1
          have hpp : (i : Int) - 9 + (m : Int) = (p : Int) := by omega
          have p19 : (p : Int) < 19 := by omega
          have HP := Lib.hid hp
          have H1 := Lib.hid hb1
          have H2 := Lib.hid hb2
          have H3 := Lib.hid hbel
          clear hst hp hb1 hb2 hbel hlen
          go_wp2_with fail
          go_region
          go_wp2_with fail
          go_roundw
          case rel =>
            refine ⟨m + 1, by omega, by go_num, ?_, (H2.out.far (by simp) _).drewN 1, (Below.setCell H3.out hA2 _).drew⟩
            rw [HST2.out, ← HP.out, ← ints_set]
            exact (H1.out.set p _).drewN 1
          case measure => simp [intOf]; omega
        · have hm5 : m = 5 := by omega
          subst hm5
          have f1 := hb1.free i
          have e1 := hb1.cell i
          rw [ints_get (by omega)] at e1
          generalize (tRun y i 5).getD i 0 = u at e1
          have hpt := HRS.out.part j9 j18
          have HCA := Lib.hid (fun w => carried_any ((tRun y i 5).set i 0) (i - 9) 8 ((i : Int) - 9) ((i : Int) - 1) 1152921504606846976 (by simp [hlen]) (by omega) (by omega) (by omega) (by omega) (by omega) (fun j _ hj => hpt.1 j (by omega)) w)
          have hb1' := hb1.set i (.int .i64 0)
          rw [ints_set] at hb1'
          have hb2' := hb2.far (a := ⟨A, i, none⟩) (by simp) (.int .i64 0)
          have hbel' : Ext w (wr.setCell ⟨A, i, none⟩ (.int .i64 0)) := Below.setCell hbel hA2 _
          have hi1 : Hid ((Tryd.prog.info? 36).map (·.size) = some (ints .i64 ((tRun y i 5).set i 0)).length) := Lib.hid (by rw [ints_length, List.length_set, hlen]; exact Tryd.arr36)
          have H1 := Lib.hid hb1'
          have H2 := Lib.hid hb2'
          have H3 := Lib.hid hbel'
          have HLN := Lib.hid hlen
          clear hb1 hb2 hbel hb1' hb2' hbel' hpt hlen
          go_wp2_with (refine wpList_load_blk rfl _ _ rfl A rfl _ _ _ _ H1.out Tryd.underlying36 hi1.out ?_)
          refine (HCA.out _).mono ?_
          rintro e w5 ⟨rfl, hb5⟩
          have H1 := Lib.hid (ext_blk H1.out hb5)
          have H2 := Lib.hid (ext_blk H2.out hb5)
          have H3 := Lib.hid (H3.out.trans hb5)
          have hi2 : Hid ((Tryd.prog.info? 36).map (·.size) = some (ints .i64 (cRun ((tRun y i 5).set i 0) (i - 9) 8)).length) := Lib.hid (by rw [ints_length, cRun_length, List.length_set, HLN.out]; exact Tryd.arr36)
          have hl2 : Hid ((ints .i64 (cRun ((tRun y i 5).set i 0) (i - 9) 8)).length = (ints .i64 ((tRun y i 5).set i 0)).length) := Lib.hid (by rw [ints_length, ints_length, cRun_length])
          clear hb5 HCA
          go_wp2_with (refine wpList_store_blk rfl _ _ _ rfl A _ rfl rfl _ _ H1.out hl2.out hi2.out (ints_one _ _) ?_; intro w6 hb6 hg6)
          go_roundw
          case rel =>
            refine ⟨n + 1, by omega, ?_, ?_, H2.out.grown hg6 (by simp), ext_grown H3.out hg6 hA2⟩
            · have := HII.out
              rw [show (i : Int) - 1 = 18 - ((n + 1 : Nat) : Int) from by omega]
            · rw [HST.out]
              exact hb6
          case measure => simp [intOf]; omega
    · have hn10 : n = 10 := by omega
      subst hn10
      have hri := HRI.out 10 (by omega)
      have hrf : restF x = cRun (addQ (rRun x 10)) 0 8 := rfl
      generalize rRun x 10 = y at *
      obtain ⟨ng, hng, hand⟩ := sgn_shift (y.getD 8 0) (hri.here.1) (hri.here.2)
      change ∀ t : Int, _ → _ → _ = sgn y * t at hand
      have hs01 := sgn_01 y
      have hadd := addQ_range hri
      have had : addQ y = (aRun y (sgn y) 5).set 8 ((aRun y (sgn y) 5).getD 8 0 + sgn y * 268435456) := rfl
      have e8 := hb1.cell 8
      have hlen := hri.len
      rw [ints_get (by omega)] at e8
      have HRS : Hid (RI y 8 v) := Lib.hid hri
      have HAND := Lib.hid hand
      have HADD := Lib.hid hadd
      have HAD := Lib.hid had
      have HRF := Lib.hid hrf
      have HYL := Lib.hid hlen
      have HS := Lib.hid hs01
      generalize sgn y = s at *
      have H1 := Lib.hid hb1
      have H2 := Lib.hid hb2
      have H3 := Lib.hid hbel
      have HGR : Hid (wr.rangeAt 1 0 (ints .i64 TAIL)) := Lib.hid (HG.out.ext hbel)
      clear hri hb1 hb2 hbel hrf had hadd hand hlen hs01
      generalize y.getD 8 0 = y8 at *
      go_wp2_with (refine wpList_load_mid rfl _ _ rfl 1 0 rfl (ints .i64 TAIL) _ HGR.out Tryd.underlying46 rfl HTI.out ?_)
      clear e8 hng
      obtain ⟨wo, rfl⟩ : ∃ wo : World, wo = wr := ⟨_, rfl⟩
      go_loopw [44] (fun j wr => ∃ (m : Nat), m ≤ 5 ∧ j = .int .i64 m ∧ Blk wr A (ints .i64 (aRun y s m)) 36 ∧ Blk wr (A + 1) (ints .i64 (List.replicate 19 0)) 36 ∧ Ext w wr) (fun j _ => 5 - (intOf j).toNat)
      case atStart => exact ⟨0, by omega, rfl, H1.out, H2.out, H3.out⟩
      case round =>
        clear H1 H2 H3 HGR
        obtain ⟨m, hm, rfl, hb1, hb2, hbel⟩ := hrel
        have m0 : (0 : Int) ≤ (m : Int) := Int.natCast_nonneg _
        have hlen := aRun_length y s m
        rw [HYL.out] at hlen
        by_cases hlm : m < 5
        · have m1 : (m : Int) < 5 := by omega
          have m19 : (m : Int) < 19 := by omega
          have HIX := tail_index m hlm
          have e1 := hb1.cell m
          rw [ints_get (by omega)] at e1
          have f1 := hb1.free m
          have hst : aRun y s (m + 1) = (aRun y s m).set m ((aRun y s m).getD m 0 + s * TAIL.getD m 0) := rfl
          have q3 := TAIL_getD m
          have HAN := HAND.out (TAIL.getD m 0) q3.1 (by omega)
          have q2 := HRS.out.low m (by omega)
          rw [← aRun_far y s m m (Nat.le_refl _)] at q2
          have q4 : 0 ≤ s * TAIL.getD m 0 ∧ s * TAIL.getD m 0 < 268435456 := by rcases HS.out with h | h <;> rw [h] <;> omega
          have HST2 := Lib.hid hst
          generalize (aRun y s m).getD m 0 = a at *
          generalize s * TAIL.getD m 0 = st at *
          generalize TAIL.getD m 0 = t at *
          have H1 := Lib.hid hb1
          have H2 := Lib.hid hb2
          have H3 := Lib.hid hbel
          clear hst hb1 hb2 hbel hlen q3
          go_wp2_with fail
          go_roundw
          case rel =>
            refine ⟨m + 1, by omega, by go_num, ?_, H2.out.far (by simp) _, Below.setCell H3.out hA2 _⟩
            rw [HST2.out, ← ints_set]
            exact H1.out.set m _
          case measure => simp [intOf]; omega
        · have hm5 : m = 5 := by omega
          subst hm5
          have f8 := hb1.free 8
          have e8 := hb1.cell 8
          rw [ints_get (by omega)] at e8
          have q8 := HRS.out.here
          rw [← aRun_far y s 5 8 (by omega)] at q8
          have HAN := HAND.out 268435456 (by omega) (by omega)
          have q4 : 0 ≤ s * 268435456 ∧ s * 268435456 ≤ 268435456 := by rcases HS.out with h | h <;> rw [h] <;> omega
          have hal : (addQ y).length = 19 := HADD.out.1
          have HCA := Lib.hid (fun w => carried_any (addQ y) 0 8 0 8 1152921504606846976 hal (by omega) rfl rfl (by omega) (by omega) (fun j _ hj => HADD.out.2.1 j (by omega)) w)
          have hb1' := hb1.set 8 (.int .i64 ((aRun y s 5).getD 8 0 + s * 268435456))
          rw [ints_set, ← HAD.out] at hb1'
          have hb2' := hb2.far (a := ⟨A, 8, none⟩) (by simp) (.int .i64 ((aRun y s 5).getD 8 0 + s * 268435456))
          have hbel' : Ext w (wr.setCell ⟨A, 8, none⟩ (.int .i64 ((aRun y s 5).getD 8 0 + s * 268435456))) := Below.setCell hbel hA2 _
          generalize (aRun y s 5).getD 8 0 = a8 at *
          generalize s * 268435456 = st at *
          have hi1 : Hid ((Tryd.prog.info? 36).map (·.size) = some (ints .i64 (addQ y)).length) := Lib.hid (by rw [ints_length, hal]; exact Tryd.arr36)
          have H1 := Lib.hid hb1'
          have H2 := Lib.hid hb2'
          have H3 := Lib.hid hbel'
          have HLN := Lib.hid hal
          clear hb1 hb2 hbel hb1' hb2' hbel' hlen hal
          go_wp2_with (refine wpList_load_blk rfl _ _ rfl A rfl _ _ _ _ H1.out Tryd.underlying36 hi1.out ?_)
          refine (HCA.out _).mono ?_
          rintro e w5 ⟨rfl, hb5⟩
          have H2 := Lib.hid (ext_blk H2.out hb5)
          have H3 := Lib.hid (H3.out.trans hb5)
          have hi2 : Hid ((Tryd.prog.info? 36).map (·.size) = some (ints .i64 (cRun (addQ y) 0 8)).length) := Lib.hid (by rw [ints_length, cRun_length, HLN.out]; exact Tryd.arr36)
          have hl2 : Hid ((ints .i64 (cRun (addQ y) 0 8)).length = (ints .i64 (List.replicate 19 0)).length) := Lib.hid (by rw [ints_length, ints_length, cRun_length, HLN.out]; rfl)
          clear hb5 HCA
          go_wp2_with (refine wpList_store_blk rfl _ _ _ rfl (A + 1) _ rfl rfl _ _ H2.out hl2.out hi2.out (ints_one _ _) ?_; intro w6 hb6 hg6)
          exact bodyPost_ret (v := .agg (ints .i64 (cRun (addQ y) 0 8)).toArray) (result_row (by rfl) _ (A + 1) _ _ _ (by rfl) hb6 Tryd.underlying36 rfl hi2.out) rfl ⟨by rw [HRF.out], ext_grown H3.out hg6 (by omega)⟩

end Go.Proofs.YtoebokeehhfboaaDoor
