/- The walk of the code's way back from limbs to a number. Each theorem names its own conditions. -/
import Derived.Test.YtmiapjmdolecbaaDoorFldOutM
namespace Go.Proofs.YtmiapjmdolecbaaDoor
open Go.RowKit
set_option linter.unusedVariables false
set_option linter.unusedSimpArgs false

set_option maxRecDepth 100000 in
set_option maxHeartbeats 8000000 in
theorem numOf_any (x : L5) (hx : x.lt 18446744073709551616) (w : World) :
    Calls Tryd.prog 13 #[x.v] w fun e w' => e = .returned (numP (x.val : Nat)) ∧ Below w.heap.size w w' := by
  have HC := Lib.hid (carried_any x hx)
  have HCL := Lib.hid (carriedL_lt x hx)
  have HCV := Lib.hid (carriedL_val x)
  have HX := Lib.hid hx
  have HB := Lib.hid (boxes2 w x.vs (ints .u8 (List.replicate 32 0)) 33 23)
  clear hx
  unfold L5.v
  go_enter Tryd.func13, Tryd.ntmps13
  go_wp2_with (refine wpList_load_blk rfl _ _ rfl w.heap.size rfl _ _ _ _ HB.out.1 Tryd.underlying33 Tryd.arr33 ?_)
  change Calls _ _ _ ((w.alloc (.cells x.vs.toArray 33)).alloc (.cells (ints .u8 (List.replicate 32 0)).toArray 23)) _
  generalize (w.alloc (.cells x.vs.toArray 33)).alloc (.cells (ints .u8 (List.replicate 32 0)).toArray 23) = w0 at *
  obtain ⟨h1, h2, h4⟩ := HB.out
  obtain ⟨A, hA⟩ : ∃ A, A = w.heap.size := ⟨_, rfl⟩
  rw [← hA] at h1 h2 ⊢
  have hA2 : w.heap.size ≤ A := by omega
  have H1 := Lib.hid h1
  have H2 := Lib.hid h2
  have HE : Hid (Ext w w0) := Lib.hid h4
  clear h1 h2 h4 HB hA
  refine (HC.out w0).mono ?_
  rintro e w1 ⟨rfl, hb1⟩
  have H1 := Lib.hid (ext_blk H1.out hb1)
  have H2 := Lib.hid (ext_blk H2.out hb1)
  have HE := Lib.hid (HE.out.trans hb1)
  clear hb1 HC
  have HCV2 : Hid (Cong ((carriedL x).val : Nat) (x.val : Nat)) := HCV
  generalize carriedL x = z at *
  go_wp2_with (refine wpList_store_blk rfl _ _ _ rfl A z.vs rfl rfl _ _ H1.out rfl Tryd.arr33 (L5.vs_one _) ?_; intro w2 hb2 hg2)
  have hvs : z.vs = nats [z.a, z.b, z.c, z.d, z.e] := rfl
  rw [hvs] at hb2
  have HXB := Lib.hid (getD_all5 HCL.out (by omega))
  have H1 := Lib.hid hb2
  have H2 := Lib.hid (H2.out.grown hg2 (by simp))
  have HE := Lib.hid (ext_grown HE.out hg2 hA2)
  clear hb2 hg2 hvs
  go_loop [3, 10] (fun r i => ∃ k : Nat, k ≤ 5 ∧ i = .int .i64 k ∧ r = .int .u64 ((rF [z.a, z.b, z.c, z.d, z.e] k : Nat) : Int)) (fun _ i => 5 - (intOf i).toNat)
  case atStart => exact ⟨0, by omega, rfl, rfl⟩
  case round =>
    obtain ⟨k, hk, rfl, rfl⟩ := hrel
    have i0' : (0 : Int) ≤ (k : Int) := Int.natCast_nonneg _
    by_cases hlt : k < 5
    · have i1 : (k : Int) < 5 := by omega
      have e1 := H1.out.cell k
      rw [nats_get (by simpa using hlt)] at e1
      have q1 := rF_lt _ HXB.out k
      have q2 := HXB.out k
      have q3 : (((rF [z.a, z.b, z.c, z.d, z.e] k : Nat) : Int) + (([z.a, z.b, z.c, z.d, z.e].getD k 0 : Nat) : Int)) / 2251799813685248 = ((rF [z.a, z.b, z.c, z.d, z.e] (k + 1) : Nat) : Int) := by
        simp only [rF]
        omega
      obtain ⟨r2, hr2⟩ : ∃ r, r = rF [z.a, z.b, z.c, z.d, z.e] (k + 1) := ⟨_, rfl⟩
      rw [← hr2] at q3
      have HR2 := Lib.hid hr2
      clear hr2
      generalize rF [z.a, z.b, z.c, z.d, z.e] k = r1 at *
      generalize [z.a, z.b, z.c, z.d, z.e].getD k 0 = xk at *
      go_wp2_with fail
      go_round
      case rel => exact ⟨k + 1, by omega, by go_num, by rw [HR2.out]⟩
      case measure => simp [intOf]; omega
    · have hk' : k = 5 := by omega
      subst hk'
      have HR5 := Lib.hid (rF_lt _ HXB.out 5)
      have hmul : IntKind.u64.wrap (19 * ((rF [z.a, z.b, z.c, z.d, z.e] 5 : Nat) : Int)) = ((19 * rF [z.a, z.b, z.c, z.d, z.e] 5 : Nat) : Int) := by
        have := HR5.out
        rw [IntKind.wrap_u64]
        omega
      have hc0 : 19 * rF [z.a, z.b, z.c, z.d, z.e] 5 ≤ 361 := by
        have := HR5.out
        omega
      have HDN := Lib.hid (fun ys => @out_done z HCL.out ys)
      clear HR5
      generalize rF [z.a, z.b, z.c, z.d, z.e] 5 = r5 at *
      have HC0 := Lib.hid hc0
      clear hc0
      generalize 19 * r5 = c0 at *
      go_wp2_with fail
      obtain ⟨xs, hxs⟩ : ∃ xs, xs = [z.a, z.b, z.c, z.d, z.e] := ⟨_, rfl⟩
      have hxl : xs.length = 5 := by rw [hxs]; rfl
      rw [← hxs] at H1 HXB HDN
      have HXS := Lib.hid hxs
      have HXL := Lib.hid hxl
      clear hxs hxl
      obtain ⟨wo, rfl⟩ : ∃ wo : World, wo = w2 := ⟨_, rfl⟩
      go_loopw [5, 22] (fun c i wr => ∃ (k : Nat) (ys : List Nat), k ≤ 5 ∧ i = .int .i64 k ∧ c = .int .u64 ((cF xs c0 k : Nat) : Int) ∧ OutL xs c0 ys k ∧ Blk wr A (nats ys) 33 ∧ Blk wr (A + 1) (ints .u8 (List.replicate 32 0)) 23 ∧ Ext w wr) (fun _ i _ => 5 - (intOf i).toNat)
      case atStart => exact ⟨0, xs, by omega, rfl, rfl, ⟨HXL.out, fun i hi => by omega, fun i _ => rfl⟩, H1.out, H2.out, HE.out⟩
      case round =>
        clear H1 H2 HE
        obtain ⟨k, ys, hk, rfl, rfl, hout, hb1, hb2, hbe⟩ := hrel
        have i0' : (0 : Int) ≤ (k : Int) := Int.natCast_nonneg _
        have hl5 := hout.len
        by_cases hlt : k < 5
        · have i1 : (k : Int) < 5 := by omega
          have e1 := hb1.cell k
          rw [nats_get (by omega), hout.high k (Nat.le_refl _)] at e1
          have f1 := hb1.free k
          have q1 := cF_lt xs c0 HC0.out HXB.out k
          have q2 := HXB.out k
          have hst := hout.step hlt
          obtain ⟨c2, hc2⟩ : ∃ r, r = cF xs c0 (k + 1) := ⟨_, rfl⟩
          have hc3 : c2 = (cF xs c0 k + xs.getD k 0) / 2251799813685248 := hc2
          generalize cF xs c0 k = c1 at *
          generalize xs.getD k 0 = xk at *
          have w1 : IntKind.u64.wrap ((c1 : Int) + (xk : Int)) = (c1 : Int) + (xk : Int) := by rw [IntKind.wrap_u64]; omega
          have w2' : ((c1 : Int) + (xk : Int)) = ((c1 + xk : Nat) : Int) := by omega
          generalize hs : c1 + xk = s at *
          have hm : bits .and .u64 (s : Int) 2251799813685247 = ((s % 2251799813685248 : Nat) : Int) := mask51 s (by omega)
          have hd : (s : Int) / 2251799813685248 = (c2 : Int) := by omega
          have w3 : IntKind.u64.wrap (s : Int) = (s : Int) := w64 (by omega)
          generalize s % 2251799813685248 = m at *
          have HST := Lib.hid hst
          have HB1 := Lib.hid hb1
          have HB2 := Lib.hid hb2
          have HBE := Lib.hid hbe
          have HC2 := Lib.hid hc2
          clear hst hb1 hb2 hbe hc2 hc3 hs hout hl5 q1 q2
          go_wp2_with fail
          go_roundw
          case rel =>
            refine ⟨k + 1, _, by omega, by go_num, by rw [HC2.out], HST.out, ?_, HB2.out.far (by simp) _, HBE.out.setCell hA2 _⟩
            rw [← nats_set]
            exact HB1.out.set k _
          case measure => simp [intOf]; omega
        · have hk' : k = 5 := by omega
          subst hk'
          obtain ⟨y, rfl, hylt, hyval⟩ := HDN.out ys hout
          obtain ⟨y0, y1, y2, y3, y4⟩ := y
          obtain ⟨g0, g1, g2, g3, g4⟩ := hylt
          simp only at g0 g1 g2 g3 g4
          have HF : Hid (b8 (2251799813685248 * (y1 % 8192) + y0) ++ b8 (274877906944 * (y2 % 67108864) + y1 / 8192) ++ b8 (33554432 * (y3 % 549755813888) + y2 / 67108864) ++ b8 (4096 * (y4 % 4503599627370496) + y3 / 549755813888) = (nb (x.val : Nat)).map bval) := Lib.hid (by
            rw [words_of g0 g1 g2 g3 g4, hyval]
            have hq : ((x.val : Nat) : Int) % pP = ((z.val % 57896044618658097711785492504343953926634992332820282019728792003956564819949 : Nat) : Int) := (cong_iff.1 HCV.out).symm
            unfold nb
            rw [hq, Int.toNat_natCast])
          obtain ⟨s0, z0, l0⟩ := lay_or y0 y1 2251799813685248 8192 51 (by decide) g0 (by omega) (by omega)
          obtain ⟨s1, z1, l1⟩ := lay_or (y1 / 8192) y2 274877906944 67108864 38 (by decide) (by omega) (by omega) (by omega)
          obtain ⟨s2, z2, l2⟩ := lay_or (y2 / 67108864) y3 33554432 549755813888 25 (by decide) (by omega) (by omega) (by omega)
          obtain ⟨s3, z3, l3⟩ := lay_or (y3 / 549755813888) y4 4096 4503599627370496 12 (by decide) (by omega) (by omega) (by omega)
          simp only [Int.cast_ofNat_Int] at z0 z1 z2 z3
          generalize hv0 : 2251799813685248 * (y1 % 8192) + y0 = v0 at *
          generalize hv1 : 274877906944 * (y2 % 67108864) + y1 / 8192 = v1 at *
          generalize hv2 : 33554432 * (y3 % 549755813888) + y2 / 67108864 = v2 at *
          generalize hv3 : 4096 * (y4 % 4503599627370496) + y3 / 549755813888 = v3 at *
          have k1 : (y1 : Int) / 8192 = ((y1 / 8192 : Nat) : Int) := by omega
          have k2 : (y2 : Int) / 67108864 = ((y2 / 67108864 : Nat) : Int) := by omega
          have k3 : (y3 : Int) / 549755813888 = ((y3 / 549755813888 : Nat) : Int) := by omega
          generalize y1 / 8192 = q1 at *
          generalize y2 / 67108864 = q2 at *
          generalize y3 / 549755813888 = q3 at *
          have HS0 := Lib.hid z0
          have HS1 := Lib.hid z1
          have HS2 := Lib.hid z2
          have HS3 := Lib.hid z3
          have HQ1 := Lib.hid k1
          have HQ2 := Lib.hid k2
          have HQ3 := Lib.hid k3
          have HV0 := Lib.hid l0
          have HV1 := Lib.hid l1
          have HV2 := Lib.hid l2
          have HV3 := Lib.hid l3
          have H1 := Lib.hid (hb1.alloc (.cells (ints .u8 (List.replicate 32 0)).toArray 23))
          have H2 := Lib.hid (hb2.alloc (.cells (ints .u8 (List.replicate 32 0)).toArray 23))
          have HD := Lib.hid (Blk.made wr (ints .u8 (List.replicate 32 0)) 23)
          have HE : Hid (Ext w (wr.alloc (.cells (ints .u8 (List.replicate 32 0)).toArray 23))) := Lib.hid (Ext.trans hbe (Ext.alloc wr _))
          obtain ⟨D, hD⟩ : ∃ D, D = wr.heap.size := ⟨_, rfl⟩
          have hDA : A + 1 < D := by have := hb2.lt; omega
          rw [← hD] at HD
          clear g0 g1 g2 g3 g4 l0 l1 l2 l3 z0 z1 z2 z3 hv0 hv1 hv2 hv3 k1 k2 k3 hb1 hb2 hbe hout hl5 hyval
          go_wp2_with fail
          rw [← hD]
          change Code.wp _ _ _ _ (wr.alloc (.cells (ints .u8 (List.replicate 32 0)).toArray 23))
          generalize wr.alloc (.cells (ints .u8 (List.replicate 32 0)).toArray 23) = w3 at *
          have HD0 := HD
          clear hD HD
          refine wp_region_from 7 1 7 rfl (by kernel_rfl) (by kernel_rfl) (fun d v c a w h => by cases d <;> exact h) (by kernel_rfl) ?_
          refine det_val (.slice (some ⟨D, 0, none⟩) 8 32) (by rfl) (fun w hw => by go_simp) ?_
          simp only [Act.put, List.setIfInBounds_toArray, List.set_cons_zero, List.set_cons_succ]
          refine det_index _ _ _ _ A 5 0 (by rfl) rfl rfl rfl Tryd.underlying33 (by omega) (Tryd.sizeOf31) ?_
          simp only [Act.put, List.setIfInBounds_toArray, List.set_cons_zero, List.set_cons_succ]
          refine det_cell _ _ A 0 (.int .u64 ((y0 : Nat) : Int)) (by rfl) rfl rfl (fun w hw => (ext_blk H1.out hw).cell 0) (Tryd.isAgg31) ?_
          simp only [Act.put, List.setIfInBounds_toArray, List.set_cons_zero, List.set_cons_succ]
          refine det_index _ _ _ _ A 5 1 (by rfl) rfl rfl rfl Tryd.underlying33 (by omega) (Tryd.sizeOf31) ?_
          simp only [Act.put, List.setIfInBounds_toArray, List.set_cons_zero, List.set_cons_succ]
          refine det_cell _ _ A 1 (.int .u64 ((y1 : Nat) : Int)) (by rfl) rfl rfl (fun w hw => (ext_blk H1.out hw).cell 1) (Tryd.isAgg31) ?_
          simp only [Act.put, List.setIfInBounds_toArray, List.set_cons_zero, List.set_cons_succ]
          refine det_val (.int .u64 ((s0 : Nat) : Int)) (by rfl) (fun w hw => by have h := HS0.out; go_simp) ?_
          simp only [Act.put, List.setIfInBounds_toArray, List.set_cons_zero, List.set_cons_succ]
          refine det_or _ _ _ _ _ _ _ (v0 : Nat) (by rfl) rfl rfl rfl HV0.out ?_
          simp only [Act.put, List.setIfInBounds_toArray, List.set_cons_zero, List.set_cons_succ]
          refine det_nil (end_store (k := 7) rfl (by kernel_rfl) (by kernel_rfl) (by kernel_rfl) rfl (fun w0 hw0 => ?_))
          have HP0 := putWord_any D 0 32 v0 _ _ w0 (ext_blk HD0.out hw0) (by simp [b8, ints_length])
          have H1 := Lib.hid (ext_blk H1.out hw0)
          have H2 := Lib.hid (ext_blk H2.out hw0)
          have HE := Lib.hid (HE.out.trans hw0)
          clear hw0
          go_simp
          refine HP0.mono ?_
          clear HP0
          rintro e x0 ⟨rfl, hb0, hg0⟩
          have HD1 : Hid (Blk x0 D (b8 v0 ++ ints .u8 (List.replicate 24 0)) 23) := Lib.hid hb0
          have H1 := Lib.hid (H1.out.grown hg0 (by simp; omega))
          have H2 := Lib.hid (H2.out.grown hg0 (by simp; omega))
          have HE := Lib.hid (ext_grown HE.out hg0 (by omega))
          clear hb0 hg0
          go_wp2_with fail
          refine wp_region_from 8 1 8 rfl (by kernel_rfl) (by kernel_rfl) (fun d v c a w h => by cases d <;> exact h) (by kernel_rfl) ?_
          refine det_val (.slice (some ⟨D, 8, none⟩) 8 24) (by rfl) (fun w hw => by go_simp) ?_
          simp only [Act.put, List.setIfInBounds_toArray, List.set_cons_zero, List.set_cons_succ]
          refine det_index _ _ _ _ A 5 1 (by rfl) rfl rfl rfl Tryd.underlying33 (by omega) (Tryd.sizeOf31) ?_
          simp only [Act.put, List.setIfInBounds_toArray, List.set_cons_zero, List.set_cons_succ]
          refine det_cell _ _ A 1 (.int .u64 ((y1 : Nat) : Int)) (by rfl) rfl rfl (fun w hw => (ext_blk H1.out hw).cell 1) (Tryd.isAgg31) ?_
          simp only [Act.put, List.setIfInBounds_toArray, List.set_cons_zero, List.set_cons_succ]
          refine det_val (.int .u64 ((q1 : Nat) : Int)) (by rfl) (fun w hw => by have h := HQ1.out; go_simp) ?_
          simp only [Act.put, List.setIfInBounds_toArray, List.set_cons_zero, List.set_cons_succ]
          refine det_index _ _ _ _ A 5 2 (by rfl) rfl rfl rfl Tryd.underlying33 (by omega) (Tryd.sizeOf31) ?_
          simp only [Act.put, List.setIfInBounds_toArray, List.set_cons_zero, List.set_cons_succ]
          refine det_cell _ _ A 2 (.int .u64 ((y2 : Nat) : Int)) (by rfl) rfl rfl (fun w hw => (ext_blk H1.out hw).cell 2) (Tryd.isAgg31) ?_
          simp only [Act.put, List.setIfInBounds_toArray, List.set_cons_zero, List.set_cons_succ]
          refine det_val (.int .u64 ((s1 : Nat) : Int)) (by rfl) (fun w hw => by have h := HS1.out; go_simp) ?_
          simp only [Act.put, List.setIfInBounds_toArray, List.set_cons_zero, List.set_cons_succ]
          refine det_or _ _ _ _ _ _ _ (v1 : Nat) (by rfl) rfl rfl rfl HV1.out ?_
          simp only [Act.put, List.setIfInBounds_toArray, List.set_cons_zero, List.set_cons_succ]
          refine det_nil (end_store (k := 8) rfl (by kernel_rfl) (by kernel_rfl) (by kernel_rfl) rfl (fun w1 hw1 => ?_))
          have HP1 := putWord_any D 8 24 v1 _ _ w1 (ext_blk HD1.out hw1) (by simp [b8, ints_length])
          have H1 := Lib.hid (ext_blk H1.out hw1)
          have H2 := Lib.hid (ext_blk H2.out hw1)
          have HE := Lib.hid (HE.out.trans hw1)
          clear hw1
          go_simp
          refine HP1.mono ?_
          clear HP1
          rintro e x1 ⟨rfl, hb1, hg1⟩
          have HD2 : Hid (Blk x1 D (b8 v0 ++ b8 v1 ++ ints .u8 (List.replicate 16 0)) 23) := Lib.hid hb1
          have H1 := Lib.hid (H1.out.grown hg1 (by simp; omega))
          have H2 := Lib.hid (H2.out.grown hg1 (by simp; omega))
          have HE := Lib.hid (ext_grown HE.out hg1 (by omega))
          clear hb1 hg1
          go_wp2_with fail
          refine wp_region_from 8 1 8 rfl (by kernel_rfl) (by kernel_rfl) (fun d v c a w h => by cases d <;> exact h) (by kernel_rfl) ?_
          refine det_val (.slice (some ⟨D, 16, none⟩) 8 16) (by rfl) (fun w hw => by go_simp) ?_
          simp only [Act.put, List.setIfInBounds_toArray, List.set_cons_zero, List.set_cons_succ]
          refine det_index _ _ _ _ A 5 2 (by rfl) rfl rfl rfl Tryd.underlying33 (by omega) (Tryd.sizeOf31) ?_
          simp only [Act.put, List.setIfInBounds_toArray, List.set_cons_zero, List.set_cons_succ]
          refine det_cell _ _ A 2 (.int .u64 ((y2 : Nat) : Int)) (by rfl) rfl rfl (fun w hw => (ext_blk H1.out hw).cell 2) (Tryd.isAgg31) ?_
          simp only [Act.put, List.setIfInBounds_toArray, List.set_cons_zero, List.set_cons_succ]
          refine det_val (.int .u64 ((q2 : Nat) : Int)) (by rfl) (fun w hw => by have h := HQ2.out; go_simp) ?_
          simp only [Act.put, List.setIfInBounds_toArray, List.set_cons_zero, List.set_cons_succ]
          refine det_index _ _ _ _ A 5 3 (by rfl) rfl rfl rfl Tryd.underlying33 (by omega) (Tryd.sizeOf31) ?_
          simp only [Act.put, List.setIfInBounds_toArray, List.set_cons_zero, List.set_cons_succ]
          refine det_cell _ _ A 3 (.int .u64 ((y3 : Nat) : Int)) (by rfl) rfl rfl (fun w hw => (ext_blk H1.out hw).cell 3) (Tryd.isAgg31) ?_
          simp only [Act.put, List.setIfInBounds_toArray, List.set_cons_zero, List.set_cons_succ]
          refine det_val (.int .u64 ((s2 : Nat) : Int)) (by rfl) (fun w hw => by have h := HS2.out; go_simp) ?_
          simp only [Act.put, List.setIfInBounds_toArray, List.set_cons_zero, List.set_cons_succ]
          refine det_or _ _ _ _ _ _ _ (v2 : Nat) (by rfl) rfl rfl rfl HV2.out ?_
          simp only [Act.put, List.setIfInBounds_toArray, List.set_cons_zero, List.set_cons_succ]
          refine det_nil (end_store (k := 8) rfl (by kernel_rfl) (by kernel_rfl) (by kernel_rfl) rfl (fun w2 hw2 => ?_))
          have HP2 := putWord_any D 16 16 v2 _ _ w2 (ext_blk HD2.out hw2) (by simp [b8, ints_length])
          have H1 := Lib.hid (ext_blk H1.out hw2)
          have H2 := Lib.hid (ext_blk H2.out hw2)
          have HE := Lib.hid (HE.out.trans hw2)
          clear hw2
          go_simp
          refine HP2.mono ?_
          clear HP2
          rintro e x2 ⟨rfl, hb2, hg2⟩
          have HD3 : Hid (Blk x2 D (b8 v0 ++ b8 v1 ++ b8 v2 ++ ints .u8 (List.replicate 8 0)) 23) := Lib.hid hb2
          have H1 := Lib.hid (H1.out.grown hg2 (by simp; omega))
          have H2 := Lib.hid (H2.out.grown hg2 (by simp; omega))
          have HE := Lib.hid (ext_grown HE.out hg2 (by omega))
          clear hb2 hg2
          go_wp2_with fail
          refine wp_region_from 8 1 8 rfl (by kernel_rfl) (by kernel_rfl) (fun d v c a w h => by cases d <;> exact h) (by kernel_rfl) ?_
          refine det_val (.slice (some ⟨D, 24, none⟩) 8 8) (by rfl) (fun w hw => by go_simp) ?_
          simp only [Act.put, List.setIfInBounds_toArray, List.set_cons_zero, List.set_cons_succ]
          refine det_index _ _ _ _ A 5 3 (by rfl) rfl rfl rfl Tryd.underlying33 (by omega) (Tryd.sizeOf31) ?_
          simp only [Act.put, List.setIfInBounds_toArray, List.set_cons_zero, List.set_cons_succ]
          refine det_cell _ _ A 3 (.int .u64 ((y3 : Nat) : Int)) (by rfl) rfl rfl (fun w hw => (ext_blk H1.out hw).cell 3) (Tryd.isAgg31) ?_
          simp only [Act.put, List.setIfInBounds_toArray, List.set_cons_zero, List.set_cons_succ]
          refine det_val (.int .u64 ((q3 : Nat) : Int)) (by rfl) (fun w hw => by have h := HQ3.out; go_simp) ?_
          simp only [Act.put, List.setIfInBounds_toArray, List.set_cons_zero, List.set_cons_succ]
          refine det_index _ _ _ _ A 5 4 (by rfl) rfl rfl rfl Tryd.underlying33 (by omega) (Tryd.sizeOf31) ?_
          simp only [Act.put, List.setIfInBounds_toArray, List.set_cons_zero, List.set_cons_succ]
          refine det_cell _ _ A 4 (.int .u64 ((y4 : Nat) : Int)) (by rfl) rfl rfl (fun w hw => (ext_blk H1.out hw).cell 4) (Tryd.isAgg31) ?_
          simp only [Act.put, List.setIfInBounds_toArray, List.set_cons_zero, List.set_cons_succ]
          refine det_val (.int .u64 ((s3 : Nat) : Int)) (by rfl) (fun w hw => by have h := HS3.out; go_simp) ?_
          simp only [Act.put, List.setIfInBounds_toArray, List.set_cons_zero, List.set_cons_succ]
          refine det_or _ _ _ _ _ _ _ (v3 : Nat) (by rfl) rfl rfl rfl HV3.out ?_
          simp only [Act.put, List.setIfInBounds_toArray, List.set_cons_zero, List.set_cons_succ]
          refine det_nil (end_store (k := 8) rfl (by kernel_rfl) (by kernel_rfl) (by kernel_rfl) rfl (fun w3 hw3 => ?_))
          have HP3 := putWord_any D 24 8 v3 _ _ w3 (ext_blk HD3.out hw3) (by simp [b8, ints_length])
          have H1 := Lib.hid (ext_blk H1.out hw3)
          have H2 := Lib.hid (ext_blk H2.out hw3)
          have HE := Lib.hid (HE.out.trans hw3)
          clear hw3
          go_simp
          refine HP3.mono ?_
          clear HP3
          rintro e x3 ⟨rfl, hb3, hg3⟩
          have HD4 : Hid (Blk x3 D (b8 v0 ++ b8 v1 ++ b8 v2 ++ b8 v3) 23) := Lib.hid hb3
          have H1 := Lib.hid (H1.out.grown hg3 (by simp; omega))
          have H2 := Lib.hid (H2.out.grown hg3 (by simp; omega))
          have HE := Lib.hid (ext_grown HE.out hg3 (by omega))
          clear hb3 hg3
          have hi1 : Hid ((Tryd.prog.info? 23).map (·.size) = some (b8 v0 ++ b8 v1 ++ b8 v2 ++ b8 v3).length) := Lib.hid Tryd.arr23
          have ho1 : Hid (∀ v ∈ b8 v0 ++ b8 v1 ++ b8 v2 ++ b8 v3, v.oneCell' = true) := Lib.hid (by rw [HF.out]; exact bval_one _)
          go_wp2_with (first | (refine wpList_load_blk rfl _ _ rfl D rfl _ _ _ _ HD4.out Tryd.underlying23 hi1.out ?_) | (refine wpList_store_blk rfl _ _ _ rfl (A + 1) _ rfl rfl _ _ H2.out rfl hi1.out ho1.out ?_; intro w7 hb7 hg7))
          exact bodyPost_ret (v := .agg (b8 v0 ++ b8 v1 ++ b8 v2 ++ b8 v3).toArray) (result_row (by rfl) _ (A + 1) _ _ _ (by rfl) hb7 Tryd.underlying23 rfl hi1.out) rfl ⟨by rw [HF.out]; rfl, ext_grown HE.out hg7 (by omega)⟩

end Go.Proofs.YtmiapjmdolecbaaDoor
