/- The walk of the code's way back from limbs to a number below the group order. Each theorem names its own conditions. -/
import Derived.Test.YtoebokeehhfboaaDoorSclNumM
import Derived.Test.YtoebokeehhfboaaDoorSclRest
namespace Go.Proofs.YtoebokeehhfboaaDoor
open Go.RowKit
set_option linter.unusedVariables false
set_option linter.unusedSimpArgs false

theorem shl_range (N : Int) (s : Nat) (h1 : 0 ≤ N) (h2 : N ≤ 268435456) (hs : s ≤ 28) : 0 ≤ N * 2 ^ (28 - s) ∧ N * 2 ^ (28 - s) ≤ 72057594037927936 := by
  have k : (2 : Nat) ^ (28 - s) ≤ 2 ^ 28 := Nat.pow_le_pow_right (by omega) (by omega)
  have e : (2 : Int) ^ (28 - s) = ((2 ^ (28 - s) : Nat) : Int) := by simp
  rw [e]
  generalize (2 : Nat) ^ (28 - s) = X at *
  refine ⟨Int.mul_nonneg h1 (by omega), Int.le_trans (Int.mul_le_mul h2 (show (X : Int) ≤ 268435456 by omega) (by omega) (by omega)) (by omega)⟩

set_option maxRecDepth 100000 in
set_option maxHeartbeats 4000000 in
theorem numOf_any (x : List Int) (v B : Int) (w : World) (hG : GlobT w) (hl : x.length = 19) (h0 : 0 ≤ B) (hB1 : B ≤ 2305843009213693952) (hB : ∀ j, j < 19 → -B ≤ x.getD j 0 ∧ x.getD j 0 ≤ B) (hv : gV 268435456 x = v) (v0 : 0 ≤ v) (v1 : v < hQ) :
    Calls Tryd.prog 17 #[.agg (ints .i64 x).toArray] w fun e w' => e = .returned (.agg ((nq v).map bval).toArray) ∧ Below w.heap.size w w' := by
  have hcan := carry_can hl h0 hB hv v0 v1
  have HRI := Lib.hid (RI.start hcan)
  have HFN := Lib.hid (restF_spec (RI.start hcan))
  have HCA := Lib.hid (fun w => carried_any x 0 18 0 18 B hl (by omega) rfl rfl h0 hB1 (fun j _ hj => hB j (by omega)) w)
  have HV0 : Hid (0 ≤ v % qQ) := Lib.hid (Int.emod_nonneg _ (by unfold qQ; omega))
  have HG := Lib.hid hG
  have HXI : Hid ((Tryd.prog.info? 36).map (·.size) = some (ints .i64 x).length) := Lib.hid (by rw [ints_length, hl]; exact Tryd.arr36)
  have HXL := Lib.hid hl
  have HB := Lib.hid (boxes2 w (ints .i64 x) (ints .u8 (List.replicate 32 0)) 36 25)
  clear hG hl hB hB1 h0 hv v0 v1 hcan
  go_enter Tryd.func17, Tryd.ntmps17
  go_wp2_with (refine wpList_load_blk rfl _ _ rfl w.heap.size rfl _ _ _ _ HB.out.1 Tryd.underlying36 HXI.out ?_)
  change Calls _ _ _ ((w.alloc (.cells (ints .i64 x).toArray 36)).alloc (.cells (ints .u8 (List.replicate 32 0)).toArray 25)) _
  generalize (w.alloc (.cells (ints .i64 x).toArray 36)).alloc (.cells (ints .u8 (List.replicate 32 0)).toArray 25) = w0 at *
  obtain ⟨b1, b2, b3⟩ := HB.out
  obtain ⟨A, hA⟩ : ∃ A, A = w.heap.size := ⟨_, rfl⟩
  rw [← hA] at b1 b2 ⊢
  have hA2 : w.heap.size ≤ A := by omega
  have H1 := Lib.hid b1
  have H2 := Lib.hid b2
  have H3 : Hid (Ext w w0) := Lib.hid b3
  clear b1 b2 b3 hA HB
  refine (HCA.out _).mono ?_
  rintro e w1 ⟨rfl, hb1⟩
  have H1 := Lib.hid (ext_blk H1.out hb1)
  have H2 := Lib.hid (ext_blk H2.out hb1)
  have H3 := Lib.hid (H3.out.trans hb1)
  clear hb1 HCA
  go_wp2_with fail
  refine (rest_any _ v _ HRI.out (HG.out.ext H3.out)).mono ?_
  rintro e w2 ⟨rfl, hb1⟩
  have H1 := Lib.hid (ext_blk H1.out hb1)
  have H2 := Lib.hid (ext_blk H2.out hb1)
  have H3 := Lib.hid (H3.out.trans hb1)
  clear hb1 HRI
  have HYL := Lib.hid HFN.out.len
  have HYD : Hid (nq v = bytesN 32 (v % qQ).toNat) := Lib.hid rfl
  generalize restF (cRun x 0 18) = y at *
  have hi2 : Hid ((Tryd.prog.info? 36).map (·.size) = some (ints .i64 y).length) := Lib.hid (by rw [ints_length, HYL.out]; exact Tryd.arr36)
  have hl2 : Hid ((ints .i64 y).length = (ints .i64 x).length) := Lib.hid (by rw [ints_length, ints_length, HYL.out, HXL.out])
  go_wp2_with (refine wpList_store_blk rfl _ _ _ rfl A _ rfl rfl _ _ H1.out hl2.out hi2.out (ints_one _ _) ?_; intro w3 hb3 hg3)
  change Code.wp _ _ _ _ (w3.alloc (.cells (ints .u8 (List.replicate 32 0)).toArray 25))
  have HD := Lib.hid (Blk.made w3 (ints .u8 (List.replicate 32 0)) 25)
  have H2' := H2.out.grown hg3 (by simp)
  have H3' := ext_grown H3.out hg3 hA2
  have H1 := Lib.hid (hb3.alloc (.cells (ints .u8 (List.replicate 32 0)).toArray 25))
  have H3 := Lib.hid (H3'.trans (Ext.alloc w3 (.cells (ints .u8 (List.replicate 32 0)).toArray 25)))
  have hDA : A + 1 < w3.heap.size := H2'.lt
  have H2 := Lib.hid (H2'.alloc (.cells (ints .u8 (List.replicate 32 0)).toArray 25))
  clear hb3 hg3 H2' H3'
  generalize (w3.alloc (.cells (ints .u8 (List.replicate 32 0)).toArray 25)) = w4 at *
  generalize w3.heap.size = D at *
  go_loopw [11] (fun i wr => ∃ (k : Nat), k ≤ 32 ∧ i = .int .i64 (k : Int) ∧ Blk wr A (ints .i64 y) 36 ∧ Blk wr (A + 1) (ints .u8 (List.replicate 32 0)) 25 ∧ Blk wr D ((fill 32 (nq v) k).map bval) 25 ∧ Ext w wr) (fun i _ => 32 - (intOf i).toNat)
  case atStart => exact ⟨0, by omega, rfl, H1.out, H2.out, by rw [fill_start]; exact HD.out, H3.out⟩
  case round =>
    clear H1 H2 H3 HD
    obtain ⟨k, hk, rfl, hb1, hb2, hb3, hbel⟩ := hrel
    have i0' : (0 : Int) ≤ (k : Int) := Int.natCast_nonneg _
    by_cases hlt : k < 32
    · have i1 : (k : Int) < 32 := by omega
      obtain ⟨p, hp⟩ : ∃ p : Nat, p = 8 * k / 28 := ⟨_, rfl⟩
      obtain ⟨s, hs⟩ : ∃ s : Nat, s = 8 * k % 28 := ⟨_, rfl⟩
      have HBY := byte_of_limbs HFN.out HV0.out hlt hp hs
      rw [← HYD.out] at HBY
      have hp2 : 8 * (k : Int) / 28 = (p : Int) := by omega
      have hs2 : 8 * (k : Int) % 28 = (s : Int) := by omega
      have p19 : (p : Int) < 19 := by omega
      have p20 : (p : Int) + 1 < 19 := by omega
      have s28 : (s : Int) < 28 := by omega
      have hyl := HYL.out
      have e1 := hb1.cell p
      rw [ints_get (by omega)] at e1
      have e2 := hb1.cell (p + 1)
      rw [ints_get (by omega)] at e2
      have hln : ((fill 32 (nq v) k).map bval).length = 32 := by rw [List.length_map, fill_length (nq_length v) (by omega)]
      have e3 := hb3.cell k
      rw [List.getElem?_eq_getElem (by omega)] at e3
      have f3 := hb3.free k
      generalize ((fill 32 (nq v) k).map bval)[k]'(by omega) = c at e3
      have q1 : 0 ≤ y.getD p 0 ∧ y.getD p 0 ≤ 268435456 := by
        rcases (by omega : p < 8 ∨ p = 8) with g | g
        · have := HFN.out.low _ g; omega
        · rw [g]; exact HFN.out.here
      have q2 : 0 ≤ y.getD (p + 1) 0 ∧ y.getD (p + 1) 0 ≤ 268435456 := by
        rcases (by omega : p + 1 < 8 ∨ p + 1 = 8 ∨ 8 < p + 1) with g | g | g
        · have := HFN.out.low _ g; omega
        · rw [g]; exact HFN.out.here
        · rw [HFN.out.high _ g]; omega
      rw [IntKind.wrap_u8] at HBY
      have HST := Lib.hid (fill_set_val (nq_length v) hlt HBY)
      have q3 := shl_range (y.getD (p + 1) 0) s q2.1 q2.2 (by omega)
      generalize y.getD p 0 = P at *
      generalize y.getD (p + 1) 0 = N at *
      have H1 := Lib.hid hb1
      have H2 := Lib.hid hb2
      have HD := Lib.hid hb3
      have H3 := Lib.hid hbel
      clear hb1 hb2 hb3 hbel hp hs hln HBY hyl
      go_wp2_with fail
      go_region
      go_wp2_with fail
      go_roundw
      case rel =>
        refine ⟨k + 1, by omega, by go_num, (H1.out.far (by simp; omega) _).drewN 1, (H2.out.far (by simp; omega) _).drewN 1, ?_, (Below.setCell H3.out (by simp; omega) _).drew⟩
        rw [← HST.out]
        exact (HD.out.set k _).drewN 1
      case measure => simp [intOf]; omega
    · have hk' : k = 32 := by omega
      subst hk'
      rw [fill_full (nq_length v)] at hb3
      have H2 := Lib.hid hb2
      have HD := Lib.hid hb3
      have H3 := Lib.hid hbel
      clear hb1 hb2 hb3 hbel
      have hi1 : Hid ((Tryd.prog.info? 25).map (·.size) = some ((nq v).map bval).length) := Lib.hid (num_size (nq_length v))
      have hl1 : Hid (((nq v).map bval).length = (ints .u8 (List.replicate 32 0)).length) := Lib.hid (by rw [List.length_map, nq_length]; rfl)
      go_wp2_with (first | (refine wpList_load_blk rfl _ _ rfl D rfl _ _ _ _ HD.out Tryd.underlying25 hi1.out ?_) | (refine wpList_store_blk rfl _ _ _ rfl (A + 1) _ rfl rfl _ _ H2.out hl1.out hi1.out (bval_one _) ?_; intro w7 hb7 hg7))
      exact bodyPost_ret (v := .agg ((nq v).map bval).toArray) (result_row (by rfl) _ (A + 1) _ _ _ (by rfl) hb7 Tryd.underlying25 rfl hi1.out) rfl ⟨rfl, ext_grown H3.out hg7 (by omega)⟩

end Go.Proofs.YtoebokeehhfboaaDoor
