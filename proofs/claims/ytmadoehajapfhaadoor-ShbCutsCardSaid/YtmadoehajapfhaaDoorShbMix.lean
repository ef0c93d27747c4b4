/- The walk of package shb's mixed. Each theorem names its own conditions. -/
import Derived.Test.YtmadoehajapfhaaDoorShbSch
import Derived.Test.YtmadoehajapfhaaDoorGlobKit
import Derived.Test.YtmadoehajapfhaaDoorDetLong
import Derived.Test.YtmadoehajapfhaaDoorScopeKit
import Derived.WalkMore
namespace Go.Proofs.YtmadoehajapfhaaDoor
open Go.RowKit
set_option linter.unusedVariables false
set_option linter.unusedSimpArgs false

/-- The digest with one more block. -/
def mixFQ (h : List Q64) (x : List UInt8) : List Q64 := qAdd h (qRun h (qSch x 0 64) 80) 8
theorem mixF_lengthQ (h : List Q64) (x : List UInt8) : (mixFQ h x).length = h.length := qAdd_length _ _ _
/-- The variable roots reads as the text lays it. -/
def GlobRQ (w : World) : Prop := w.rangeAt 3 0 (ints .u64 (qs K512))
theorem GlobRQ.ext {w w' : World} (h : GlobRQ w) (hb : Ext w w') : GlobRQ w' := glob_ext h hb
theorem GlobRQ.cell {w : World} (h : GlobRQ w) {j : Nat} (hj : j < 80) : w.cell? ⟨3, j, none⟩ = some (.int .u64 (qi (K512.getD j 0#64))) := by
  have := h j (.int .u64 (qi (K512.getD j 0#64))) (by rw [ints_get (by rw [qs_length]; exact hj), qs_getD])
  simpa using this

theorem hAdd8Q : ∀ (h v : List Q64), h.length = 8 → v.length = 8 → qAdd h v 8 = [h.getD 0 0#64 + v.getD 0 0#64, h.getD 1 0#64 + v.getD 1 0#64, h.getD 2 0#64 + v.getD 2 0#64, h.getD 3 0#64 + v.getD 3 0#64, h.getD 4 0#64 + v.getD 4 0#64, h.getD 5 0#64 + v.getD 5 0#64, h.getD 6 0#64 + v.getD 6 0#64, h.getD 7 0#64 + v.getD 7 0#64]
  | [_, _, _, _, _, _, _, _], [_, _, _, _, _, _, _, _], _, _ => rfl
/-- What stands at the label, behind k rounds. -/
def MixJQ (h : List Q64) (cs : List UInt8) (A : Nat) (wb : World) (a : Act) (w : World) : Prop :=
  ∃ k B : Nat, k ≤ 80 ∧ Blk w A (ints .u64 (qs h)) 59 ∧ Blk w (A + 1 + 1) (ints .u64 (List.replicate 8 0)) 59 ∧ Blk w B (ints .u64 (qs (qSch cs 0 64))) 57 ∧ Ext wb w ∧
  ∃ u : Nat → Value, a = { tmps := #[.agg (ints .u64 (qs h)).toArray, .agg (cs.map bval).toArray, .pointer (some ⟨A, 0, none⟩), .pointer (some ⟨A + 1, 0, none⟩), .pointer (some ⟨A + 1 + 1, 0, none⟩), .pointer (some ⟨B, 0, none⟩),
    .int .u64 (qi ((qRun h (qSch cs 0 64) k).getD 0 0#64)), .int .u64 (qi ((qRun h (qSch cs 0 64) k).getD 1 0#64)), .int .u64 (qi ((qRun h (qSch cs 0 64) k).getD 2 0#64)), .int .u64 (qi ((qRun h (qSch cs 0 64) k).getD 3 0#64)), .int .u64 (qi ((qRun h (qSch cs 0 64) k).getD 4 0#64)), .int .u64 (qi ((qRun h (qSch cs 0 64) k).getD 5 0#64)), .int .u64 (qi ((qRun h (qSch cs 0 64) k).getD 6 0#64)), .int .u64 (qi ((qRun h (qSch cs 0 64) k).getD 7 0#64)), .int .i64 (k : Int), u 15, u 16, u 17, u 18, u 19, u 20, u 21, u 22, u 23, u 24, u 25, u 26, u 27, u 28, u 29, u 30, u 31, u 32, u 33, u 34, u 35, u 36, u 37, u 38, u 39, u 40, u 41, u 42, u 43, u 44, u 45, u 46, u 47, u 48, u 49, u 50, u 51, u 52, u 53, u 54, u 55, u 56, u 57, u 58, u 59, u 60, u 61, u 62, u 63, u 64, u 65, u 66, u 67, u 68, u 69, u 70, u 71, u 72, u 73, u 74, u 75, u 76, u 77, u 78, u 79, u 80, u 81, u 82, u 83, u 84, u 85, u 86, u 87, u 88, u 89, u 90, u 91, u 92, u 93, u 94, u 95, u 96, u 97, u 98, u 99, u 100, u 101, u 102, u 103, u 104, u 105, u 106, u 107, u 108, u 109, u 110, u 111, u 112, u 113, u 114, u 115, u 116, u 117, u 118], defers := [] }

set_option maxRecDepth 100000 in
set_option maxHeartbeats 8000000 in
theorem mixed_anyQ (h : List Q64) (cs : List UInt8) (w : World) (hh : h.length = 8) (hl : cs.length = 128) (hG : GlobRQ w) :
    Calls Tryd.prog 29 #[.agg (ints .u64 (qs h)).toArray, .agg (cs.map bval).toArray] w fun e w' => e = .returned (.agg (ints .u64 (qs (mixFQ h cs))).toArray) ∧ Below w.heap.size w w' := by
  have HL := Lib.hid hl
  have HH := Lib.hid hh
  have HG := Lib.hid hG
  have HB := Lib.hid (boxes3uQ w (ints .u64 (qs h)) (cs.map bval) (ints .u64 (List.replicate 8 0)) 59 62 59)
  have HIr : Hid ((Tryd.prog.info? 62).map (·.size) = some (cs.map bval).length) := Lib.hid (by rw [List.length_map, hl]; exact Tryd.arr62)
  clear hl hh hG
  go_enter Tryd.func29, Tryd.ntmps29
  go_upto_region 1 with (fail)
  obtain ⟨H1, H2, H3, HE⟩ := HB.out
  change Code.wp _ _ _ _ (((w.alloc (.cells (ints .u64 (qs h)).toArray 59)).alloc (.cells (cs.map bval).toArray 62)).alloc (.cells (ints .u64 (List.replicate 8 0)).toArray 59))
  generalize (((w.alloc (.cells (ints .u64 (qs h)).toArray 59)).alloc (.cells (cs.map bval).toArray 62)).alloc (.cells (ints .u64 (List.replicate 8 0)).toArray 59)) = w3 at *
  obtain ⟨A, hA⟩ : ∃ A, A = w.heap.size := ⟨_, rfl⟩
  rw [← hA] at H1 H2 H3 ⊢
  have hA2 : w.heap.size ≤ A := by omega
  have H1 := Lib.hid H1
  have H2 := Lib.hid H2
  have H3 := Lib.hid H3
  have HE : Hid (Ext w w3) := Lib.hid HE
  clear hA HB
  refine wp_scope_back0 0 (MixJQ h cs A w) (fun a' _ => 80 - (intOf (a'.tmps.getD 14 undef)).toNat) rfl ?_ ?_
  · intro HP
    have HP := Lib.hid HP
    go_wp2_with (refine wpList_load_blk rfl _ _ rfl (A + 1) rfl _ _ _ _ H2.out Tryd.underlying62 HIr.out ?_)
    refine (schedule_anyQ cs w3 HL.out).mono ?_
    rintro e w4 ⟨rfl, hb⟩
    have H1 := Lib.hid (ext_blk H1.out hb)
    have H3 := Lib.hid (ext_blk H3.out hb)
    have HE := Lib.hid (HE.out.trans hb)
    clear hb H2
    have HZ := Lib.hid (Blk.made w4 (ints .u64 (List.replicate 80 0)) 57)
    have H1L := Lib.hid H1.out.lt
    have H3L := Lib.hid H3.out.lt
    have H1 := Lib.hid (H1.out.alloc (.cells (ints .u64 (List.replicate 80 0)).toArray 57))
    have H3 := Lib.hid (H3.out.alloc (.cells (ints .u64 (List.replicate 80 0)).toArray 57))
    have HS4 := Lib.hid HE.out.size
    have HE := Lib.hid (HE.out.trans (Ext.alloc w4 (.cells (ints .u64 (List.replicate 80 0)).toArray 57)))
    have HLE : Hid ((ints .u64 (qs (qSch cs 0 64))).length = (ints .u64 (List.replicate 80 0)).length) := Lib.hid (by rw [ints_length, qs_length, qSch_length, ints_length, List.length_replicate])
    have HIw : Hid ((Tryd.prog.info? 57).map (·.size) = some (ints .u64 (qs (qSch cs 0 64))).length) := Lib.hid (by rw [ints_length, qs_length, qSch_length]; exact Tryd.arr57)
    go_wp2_with (refine wpList_store_blk rfl _ _ _ rfl w4.heap.size (ints .u64 (qs (qSch cs 0 64))) rfl rfl _ _ HZ.out HLE.out HIw.out (ints_one _ _) ?_; intro w5 hb5 hg5)
    have H1 := Lib.hid (H1.out.grown hg5 (by have := H1L.out; simp; omega))
    have H3 := Lib.hid (H3.out.grown hg5 (by have := H3L.out; simp; omega))
    have HE := Lib.hid (ext_grown HE.out hg5 HS4.out)
    have H4 := Lib.hid hb5
    generalize w4.heap.size = B at *
    clear hb5 hg5 HZ H1L H3L HS4 HLE HIw
    go_wp2_with fail
    refine wp_region_all (by kernel_rfl) (by kernel_rfl) ?_
    refine det_index _ _ _ _ A 8 0 (by rfl) rfl rfl rfl Tryd.underlying59 (by omega) (Tryd.sizeOf55) ?_
    simp only [Act.put, List.setIfInBounds_toArray, List.set_cons_zero, List.set_cons_succ]
    refine det_cell _ _ A 0 (.int .u64 (qi (h.getD 0 0#64))) (by rfl) rfl rfl (fun w hw => blk_q (ext_blk H1.out hw) (by rw [HH.out]; omega)) (Tryd.isAgg55) ?_
    simp only [Act.put, List.setIfInBounds_toArray, List.set_cons_zero, List.set_cons_succ]
    refine det_index _ _ _ _ A 8 1 (by rfl) rfl rfl rfl Tryd.underlying59 (by omega) (Tryd.sizeOf55) ?_
    simp only [Act.put, List.setIfInBounds_toArray, List.set_cons_zero, List.set_cons_succ]
    refine det_cell _ _ A 1 (.int .u64 (qi (h.getD 1 0#64))) (by rfl) rfl rfl (fun w hw => blk_q (ext_blk H1.out hw) (by rw [HH.out]; omega)) (Tryd.isAgg55) ?_
    simp only [Act.put, List.setIfInBounds_toArray, List.set_cons_zero, List.set_cons_succ]
    refine det_index _ _ _ _ A 8 2 (by rfl) rfl rfl rfl Tryd.underlying59 (by omega) (Tryd.sizeOf55) ?_
    simp only [Act.put, List.setIfInBounds_toArray, List.set_cons_zero, List.set_cons_succ]
    refine det_cell _ _ A 2 (.int .u64 (qi (h.getD 2 0#64))) (by rfl) rfl rfl (fun w hw => blk_q (ext_blk H1.out hw) (by rw [HH.out]; omega)) (Tryd.isAgg55) ?_
    simp only [Act.put, List.setIfInBounds_toArray, List.set_cons_zero, List.set_cons_succ]
    refine det_index _ _ _ _ A 8 3 (by rfl) rfl rfl rfl Tryd.underlying59 (by omega) (Tryd.sizeOf55) ?_
    simp only [Act.put, List.setIfInBounds_toArray, List.set_cons_zero, List.set_cons_succ]
    refine det_cell _ _ A 3 (.int .u64 (qi (h.getD 3 0#64))) (by rfl) rfl rfl (fun w hw => blk_q (ext_blk H1.out hw) (by rw [HH.out]; omega)) (Tryd.isAgg55) ?_
    simp only [Act.put, List.setIfInBounds_toArray, List.set_cons_zero, List.set_cons_succ]
    refine det_index _ _ _ _ A 8 4 (by rfl) rfl rfl rfl Tryd.underlying59 (by omega) (Tryd.sizeOf55) ?_
    simp only [Act.put, List.setIfInBounds_toArray, List.set_cons_zero, List.set_cons_succ]
    refine det_cell _ _ A 4 (.int .u64 (qi (h.getD 4 0#64))) (by rfl) rfl rfl (fun w hw => blk_q (ext_blk H1.out hw) (by rw [HH.out]; omega)) (Tryd.isAgg55) ?_
    simp only [Act.put, List.setIfInBounds_toArray, List.set_cons_zero, List.set_cons_succ]
    refine det_index _ _ _ _ A 8 5 (by rfl) rfl rfl rfl Tryd.underlying59 (by omega) (Tryd.sizeOf55) ?_
    simp only [Act.put, List.setIfInBounds_toArray, List.set_cons_zero, List.set_cons_succ]
    refine det_cell _ _ A 5 (.int .u64 (qi (h.getD 5 0#64))) (by rfl) rfl rfl (fun w hw => blk_q (ext_blk H1.out hw) (by rw [HH.out]; omega)) (Tryd.isAgg55) ?_
    simp only [Act.put, List.setIfInBounds_toArray, List.set_cons_zero, List.set_cons_succ]
    refine det_index _ _ _ _ A 8 6 (by rfl) rfl rfl rfl Tryd.underlying59 (by omega) (Tryd.sizeOf55) ?_
    simp only [Act.put, List.setIfInBounds_toArray, List.set_cons_zero, List.set_cons_succ]
    refine det_cell _ _ A 6 (.int .u64 (qi (h.getD 6 0#64))) (by rfl) rfl rfl (fun w hw => blk_q (ext_blk H1.out hw) (by rw [HH.out]; omega)) (Tryd.isAgg55) ?_
    simp only [Act.put, List.setIfInBounds_toArray, List.set_cons_zero, List.set_cons_succ]
    refine det_index _ _ _ _ A 8 7 (by rfl) rfl rfl rfl Tryd.underlying59 (by omega) (Tryd.sizeOf55) ?_
    simp only [Act.put, List.setIfInBounds_toArray, List.set_cons_zero, List.set_cons_succ]
    refine det_cell _ _ A 7 (.int .u64 (qi (h.getD 7 0#64))) (by rfl) rfl rfl (fun w hw => blk_q (ext_blk H1.out hw) (by rw [HH.out]; omega)) (Tryd.isAgg55) ?_
    simp only [Act.put, List.setIfInBounds_toArray, List.set_cons_zero, List.set_cons_succ]
    refine det_assign _ (.int .u64 (qi (h.getD 0 0#64))) (by rfl) rfl rfl ?_
    simp only [Act.put, List.setIfInBounds_toArray, List.set_cons_zero, List.set_cons_succ]
    refine det_assign _ (.int .u64 (qi (h.getD 1 0#64))) (by rfl) rfl rfl ?_
    simp only [Act.put, List.setIfInBounds_toArray, List.set_cons_zero, List.set_cons_succ]
    refine det_assign _ (.int .u64 (qi (h.getD 2 0#64))) (by rfl) rfl rfl ?_
    simp only [Act.put, List.setIfInBounds_toArray, List.set_cons_zero, List.set_cons_succ]
    refine det_assign _ (.int .u64 (qi (h.getD 3 0#64))) (by rfl) rfl rfl ?_
    simp only [Act.put, List.setIfInBounds_toArray, List.set_cons_zero, List.set_cons_succ]
    refine det_assign _ (.int .u64 (qi (h.getD 4 0#64))) (by rfl) rfl rfl ?_
    simp only [Act.put, List.setIfInBounds_toArray, List.set_cons_zero, List.set_cons_succ]
    refine det_assign _ (.int .u64 (qi (h.getD 5 0#64))) (by rfl) rfl rfl ?_
    simp only [Act.put, List.setIfInBounds_toArray, List.set_cons_zero, List.set_cons_succ]
    refine det_assign _ (.int .u64 (qi (h.getD 6 0#64))) (by rfl) rfl rfl ?_
    simp only [Act.put, List.setIfInBounds_toArray, List.set_cons_zero, List.set_cons_succ]
    refine det_assign _ (.int .u64 (qi (h.getD 7 0#64))) (by rfl) rfl rfl ?_
    simp only [Act.put, List.setIfInBounds_toArray, List.set_cons_zero, List.set_cons_succ]
    refine det_nil (fun w6 hw6 => ?_)
    have H1 := Lib.hid (ext_blk H1.out hw6)
    have H3 := Lib.hid (ext_blk H3.out hw6)
    have H4 := Lib.hid (ext_blk H4.out hw6)
    have HE := Lib.hid (HE.out.trans hw6)
    clear hw6
    go_wp2_with fail
    go_step3
    rename_i hK
    refine hK _ _ (HP.out _ _ ?_)
    exact ⟨0, B, by omega, H1.out, H3.out, H4.out, HE.out, fun n => ([_, _, _, _, _, _, _, _, _, _, _, _, _, _, _, _, _, _, _, _, _, _, _, _, _, _, _, _, _, _, _, _, _, _, _, _, _, _, _, _, _, _, _, _, _, _, _, _, _, _, _, _, _, _, _, _, _, _, _, _, _, _, _, _, _, _, _, _, _, _, _, _, _, _, _, _, _, _, _, _, _, _, _, _, _, _, _, _, _, _, _, _, _, _, _, _, _, _, _, _, _, _, _, _] : List Value).getD (n - 15) undef, rfl⟩
  · rintro a w7 ⟨k, B, hk, h1, h3, h4, hE, u, rfl⟩
    have H1 := Lib.hid h1
    have H3 := Lib.hid h3
    have H4 := Lib.hid h4
    have HE := Lib.hid hE
    clear h1 h3 h4 hE
    have hvl := qRun_length h (qSch cs 0 64) HH.out k
    by_cases hlt : k < 80
    · have k1 : (k : Int) < 80 := by omega
      have k0 : (0 : Int) ≤ (k : Int) := Int.natCast_nonneg _
      have HWK : Hid (∀ w', Blk w' B (ints .u64 (qs (qSch cs 0 64))) 57 → w'.cell? ⟨B, k, none⟩ = some (.int .u64 (qi ((qSch cs 0 64).getD k 0#64)))) := Lib.hid (fun w' h => blk_q h (by rw [qSch_length]; exact hlt))
      have HKK : Hid (∀ w', Ext w7 w' → w'.cell? ⟨3, k, none⟩ = some (.int .u64 (qi (K512.getD k 0#64)))) := Lib.hid (fun w' h => (HG.out.ext (HE.out.trans h)).cell hlt)
      have HRN : Hid (∀ j, (qRun h (qSch cs 0 64) (k + 1)).getD j 0#64 = (rndq (qRun h (qSch cs 0 64) k) (K512.getD k 0#64) ((qSch cs 0 64).getD k 0#64)).getD j 0#64) := Lib.hid (fun _ => rfl)
      unfold rndq at HRN
      generalize K512.getD k 0#64 = kk at *
      generalize (qSch cs 0 64).getD k 0#64 = wk at *
      generalize (qRun h (qSch cs 0 64) k).getD 0 0#64 = v0 at *
      generalize (qRun h (qSch cs 0 64) k).getD 1 0#64 = v1 at *
      generalize (qRun h (qSch cs 0 64) k).getD 2 0#64 = v2 at *
      generalize (qRun h (qSch cs 0 64) k).getD 3 0#64 = v3 at *
      generalize (qRun h (qSch cs 0 64) k).getD 4 0#64 = v4 at *
      generalize (qRun h (qSch cs 0 64) k).getD 5 0#64 = v5 at *
      generalize (qRun h (qSch cs 0 64) k).getD 6 0#64 = v6 at *
      generalize (qRun h (qSch cs 0 64) k).getD 7 0#64 = v7 at *
      go_wp2_with fail
      refine wp_region_all (by kernel_rfl) (by kernel_rfl) ?_
      refine det_move _ (.int .u64 (qi v7)) (by rfl) rfl rfl ?_
      simp only [Act.put, List.setIfInBounds_toArray, List.set_cons_zero, List.set_cons_succ]
      refine det_move _ (.int .u64 (qi v4)) (by rfl) rfl rfl ?_
      simp only [Act.put, List.setIfInBounds_toArray, List.set_cons_zero, List.set_cons_succ]
      refine det_call _ _ _ [.int .u64 (qi v4), .int .i64 14, .int .i64 18, .int .i64 41] (.int .u64 (qi (rotq v4 14 ^^^ rotq v4 18 ^^^ rotq v4 41))) (by rfl) rfl Tryd.call37 rfl (fun w hw => sum_extQ v4 14 18 41 (by omega) (by omega) (by omega) (by omega) (by omega) (by omega) w) ?_
      simp only [Act.put, List.setIfInBounds_toArray, List.set_cons_zero, List.set_cons_succ]
      refine det_add _ _ _ _ _ _ _ (qi (v7 + (rotq v4 14 ^^^ rotq v4 18 ^^^ rotq v4 41))) (by rfl) rfl rfl rfl (qi_add _ _) ?_
      simp only [Act.put, List.setIfInBounds_toArray, List.set_cons_zero, List.set_cons_succ]
      refine det_move _ (.int .u64 (qi v4)) (by rfl) rfl rfl ?_
      simp only [Act.put, List.setIfInBounds_toArray, List.set_cons_zero, List.set_cons_succ]
      refine det_move _ (.int .u64 (qi v5)) (by rfl) rfl rfl ?_
      simp only [Act.put, List.setIfInBounds_toArray, List.set_cons_zero, List.set_cons_succ]
      refine det_and _ _ _ _ _ _ _ (qi (v4 &&& v5)) (by rfl) rfl rfl rfl (qi_and _ _) ?_
      simp only [Act.put, List.setIfInBounds_toArray, List.set_cons_zero, List.set_cons_succ]
      refine det_move _ (.int .u64 (qi v4)) (by rfl) rfl rfl ?_
      simp only [Act.put, List.setIfInBounds_toArray, List.set_cons_zero, List.set_cons_succ]
      refine det_qinot _ _ v4 (by rfl) rfl rfl ?_
      simp only [Act.put, List.setIfInBounds_toArray, List.set_cons_zero, List.set_cons_succ]
      refine det_move _ (.int .u64 (qi v6)) (by rfl) rfl rfl ?_
      simp only [Act.put, List.setIfInBounds_toArray, List.set_cons_zero, List.set_cons_succ]
      refine det_and _ _ _ _ _ _ _ (qi ((~~~v4) &&& v6)) (by rfl) rfl rfl rfl (qi_and _ _) ?_
      simp only [Act.put, List.setIfInBounds_toArray, List.set_cons_zero, List.set_cons_succ]
      refine det_xor _ _ _ _ _ _ _ (qi ((v4 &&& v5) ^^^ ((~~~v4) &&& v6))) (by rfl) rfl rfl rfl (qi_xor _ _) ?_
      simp only [Act.put, List.setIfInBounds_toArray, List.set_cons_zero, List.set_cons_succ]
      refine det_add _ _ _ _ _ _ _ (qi ((v7 + (rotq v4 14 ^^^ rotq v4 18 ^^^ rotq v4 41)) + ((v4 &&& v5) ^^^ ((~~~v4) &&& v6)))) (by rfl) rfl rfl rfl (qi_add _ _) ?_
      simp only [Act.put, List.setIfInBounds_toArray, List.set_cons_zero, List.set_cons_succ]
      refine det_move _ (.int .i64 ((k : Nat) : Int)) (by rfl) rfl rfl ?_
      simp only [Act.put, List.setIfInBounds_toArray, List.set_cons_zero, List.set_cons_succ]
      refine det_index _ _ _ _ 3 80 k (by rfl) rfl rfl rfl Tryd.underlying57 (by omega) (Tryd.sizeOf55) ?_
      simp only [Act.put, List.setIfInBounds_toArray, List.set_cons_zero, List.set_cons_succ]
      refine det_cell _ _ 3 k (.int .u64 (qi kk)) (by rfl) rfl rfl (fun w hw => HKK.out _ hw) (Tryd.isAgg55) ?_
      simp only [Act.put, List.setIfInBounds_toArray, List.set_cons_zero, List.set_cons_succ]
      refine det_add _ _ _ _ _ _ _ (qi (((v7 + (rotq v4 14 ^^^ rotq v4 18 ^^^ rotq v4 41)) + ((v4 &&& v5) ^^^ ((~~~v4) &&& v6))) + kk)) (by rfl) rfl rfl rfl (qi_add _ _) ?_
      simp only [Act.put, List.setIfInBounds_toArray, List.set_cons_zero, List.set_cons_succ]
      refine det_move _ (.int .i64 ((k : Nat) : Int)) (by rfl) rfl rfl ?_
      simp only [Act.put, List.setIfInBounds_toArray, List.set_cons_zero, List.set_cons_succ]
      refine det_index _ _ _ _ B 80 k (by rfl) rfl rfl rfl Tryd.underlying57 (by omega) (Tryd.sizeOf55) ?_
      simp only [Act.put, List.setIfInBounds_toArray, List.set_cons_zero, List.set_cons_succ]
      refine det_cell _ _ B k (.int .u64 (qi wk)) (by rfl) rfl rfl (fun w hw => HWK.out _ (ext_blk H4.out hw)) (Tryd.isAgg55) ?_
      simp only [Act.put, List.setIfInBounds_toArray, List.set_cons_zero, List.set_cons_succ]
      refine det_add _ _ _ _ _ _ _ (qi ((((v7 + (rotq v4 14 ^^^ rotq v4 18 ^^^ rotq v4 41)) + ((v4 &&& v5) ^^^ ((~~~v4) &&& v6))) + kk) + wk)) (by rfl) rfl rfl rfl (qi_add _ _) ?_
      simp only [Act.put, List.setIfInBounds_toArray, List.set_cons_zero, List.set_cons_succ]
      refine det_assign _ (.int .u64 (qi ((((v7 + (rotq v4 14 ^^^ rotq v4 18 ^^^ rotq v4 41)) + ((v4 &&& v5) ^^^ ((~~~v4) &&& v6))) + kk) + wk))) (by rfl) rfl rfl ?_
      simp only [Act.put, List.setIfInBounds_toArray, List.set_cons_zero, List.set_cons_succ]
      refine det_nil (fun w1 hw1 => ?_)
      have H1 := Lib.hid (ext_blk H1.out hw1)
      have H3 := Lib.hid (ext_blk H3.out hw1)
      have H4 := Lib.hid (ext_blk H4.out hw1)
      have HE := Lib.hid (HE.out.trans hw1)
      clear hw1
      generalize ht : (((v7 + (rotq v4 14 ^^^ rotq v4 18 ^^^ rotq v4 41)) + ((v4 &&& v5) ^^^ ((~~~v4) &&& v6))) + kk) + wk = t at *
      have HT := Lib.hid ht
      clear ht
      go_wp2_with fail
      have q1 : bits .and .u64 (qi v0) (qi v1) = qi (v0 &&& v1) := qi_and _ _
      have q2 : bits .and .u64 (qi v0) (qi v2) = qi (v0 &&& v2) := qi_and _ _
      have q3 : bits .and .u64 (qi v1) (qi v2) = qi (v1 &&& v2) := qi_and _ _
      have q4 : bits .xor .u64 (qi (v0 &&& v1)) (qi (v0 &&& v2)) = qi (v0 &&& v1 ^^^ v0 &&& v2) := qi_xor _ _
      have q5 : bits .xor .u64 (qi (v0 &&& v1 ^^^ v0 &&& v2)) (qi (v1 &&& v2)) = qi (v0 &&& v1 ^^^ v0 &&& v2 ^^^ v1 &&& v2) := qi_xor _ _
      obtain ⟨u16, hu⟩ : ∃ x : Q64, x = (rotq v0 28 ^^^ rotq v0 34 ^^^ rotq v0 39) + (v0 &&& v1 ^^^ v0 &&& v2 ^^^ v1 &&& v2) := ⟨_, rfl⟩
      have q6 : IntKind.u64.wrap (qi (rotq v0 28 ^^^ rotq v0 34 ^^^ rotq v0 39) + qi (v0 &&& v1 ^^^ v0 &&& v2 ^^^ v1 &&& v2)) = qi u16 := by rw [hu, qi_add]
      have q7 : IntKind.u64.wrap (qi t + qi u16) = qi (t + u16) := by rw [qi_add]
      have q8 : IntKind.u64.wrap (qi v3 + qi t) = qi (v3 + t) := by rw [qi_add]
      have HU := Lib.hid hu
      clear hu
      refine (sum_anyQ v0 28 34 39 (by omega) (by omega) (by omega) (by omega) (by omega) (by omega) w1).mono ?_
      rintro e w2 ⟨rfl, rfl⟩
      go_wp2_with fail
      clear q1 q2 q3 q4 q5 q6
      go_step3
      have r0 : (qRun h (qSch cs 0 64) (k + 1)).getD 0 0#64 = t + u16 := by rw [HRN.out, ← HT.out, HU.out]; rfl
      have r4 : (qRun h (qSch cs 0 64) (k + 1)).getD 4 0#64 = v3 + t := by rw [HRN.out, ← HT.out]; rfl
      have r1 : (qRun h (qSch cs 0 64) (k + 1)).getD 1 0#64 = v0 := HRN.out 1
      have r2 : (qRun h (qSch cs 0 64) (k + 1)).getD 2 0#64 = v1 := HRN.out 2
      have r3 : (qRun h (qSch cs 0 64) (k + 1)).getD 3 0#64 = v2 := HRN.out 3
      have r5 : (qRun h (qSch cs 0 64) (k + 1)).getD 5 0#64 = v4 := HRN.out 5
      have r6 : (qRun h (qSch cs 0 64) (k + 1)).getD 6 0#64 = v5 := HRN.out 6
      have r7 : (qRun h (qSch cs 0 64) (k + 1)).getD 7 0#64 = v6 := HRN.out 7
      have hk1 : ((k + 1 : Nat) : Int) = (k : Int) + 1 := by omega
      rw [← r0, ← r4, ← r1, ← r2, ← r3, ← r5, ← r6, ← r7, ← hk1]
      change (0 = 0 ∧ (MixJQ h cs A w _ _ ∧ _ < _))
      refine ⟨rfl, ⟨k + 1, B, by omega, H1.out, H3.out, H4.out, HE.out, fun n => ([_, _, _, _, _, _, _, _, _, _, _, _, _, _, _, _, _, _, _, _, _, _, _, _, _, _, _, _, _, _, _, _, _, _, _, _, _, _, _, _, _, _, _, _, _, _, _, _, _, _, _, _, _, _, _, _, _, _, _, _, _, _, _, _, _, _, _, _, _, _, _, _, _, _, _, _, _, _, _, _, _, _, _, _, _, _, _, _, _, _, _, _, _, _, _, _, _, _, _, _, _, _, _, _] : List Value).getD (n - 15) undef, rfl⟩, ?_⟩
      · show 80 - (intOf (.int .i64 ((k + 1 : Nat) : Int))).toNat < 80 - (intOf (.int .i64 (k : Int))).toNat
        simp [intOf]
        omega
    · have hk64 : k = 80 := by omega
      subst hk64
      have e := hAdd8Q h (qRun h (qSch cs 0 64) 80) HH.out hvl
      have HM : Hid (mixFQ h cs = _) := Lib.hid e
      have hc : ∀ j, j < 8 → w7.cell? ⟨A, j, none⟩ = some (.int .u64 (qi (h.getD j 0#64))) := fun j hj => blk_q H1.out (by rw [HH.out]; exact hj)
      have c0 := hc 0 (by omega)
      have c1 := hc 1 (by omega)
      have c2 := hc 2 (by omega)
      have c3 := hc 3 (by omega)
      have c4 := hc 4 (by omega)
      have c5 := hc 5 (by omega)
      have c6 := hc 6 (by omega)
      have c7 := hc 7 (by omega)
      generalize (qRun h (qSch cs 0 64) 80).getD 0 0#64 = v0 at *
      generalize h.getD 0 0#64 = y0 at *
      have s0 : IntKind.u64.wrap (qi y0 + qi v0) = qi (y0 + v0) := by rw [qi_add]
      generalize (qRun h (qSch cs 0 64) 80).getD 1 0#64 = v1 at *
      generalize h.getD 1 0#64 = y1 at *
      have s1 : IntKind.u64.wrap (qi y1 + qi v1) = qi (y1 + v1) := by rw [qi_add]
      generalize (qRun h (qSch cs 0 64) 80).getD 2 0#64 = v2 at *
      generalize h.getD 2 0#64 = y2 at *
      have s2 : IntKind.u64.wrap (qi y2 + qi v2) = qi (y2 + v2) := by rw [qi_add]
      generalize (qRun h (qSch cs 0 64) 80).getD 3 0#64 = v3 at *
      generalize h.getD 3 0#64 = y3 at *
      have s3 : IntKind.u64.wrap (qi y3 + qi v3) = qi (y3 + v3) := by rw [qi_add]
      generalize (qRun h (qSch cs 0 64) 80).getD 4 0#64 = v4 at *
      generalize h.getD 4 0#64 = y4 at *
      have s4 : IntKind.u64.wrap (qi y4 + qi v4) = qi (y4 + v4) := by rw [qi_add]
      generalize (qRun h (qSch cs 0 64) 80).getD 5 0#64 = v5 at *
      generalize h.getD 5 0#64 = y5 at *
      have s5 : IntKind.u64.wrap (qi y5 + qi v5) = qi (y5 + v5) := by rw [qi_add]
      generalize (qRun h (qSch cs 0 64) 80).getD 6 0#64 = v6 at *
      generalize h.getD 6 0#64 = y6 at *
      have s6 : IntKind.u64.wrap (qi y6 + qi v6) = qi (y6 + v6) := by rw [qi_add]
      generalize (qRun h (qSch cs 0 64) 80).getD 7 0#64 = v7 at *
      generalize h.getD 7 0#64 = y7 at *
      have s7 : IntKind.u64.wrap (qi y7 + qi v7) = qi (y7 + v7) := by rw [qi_add]
      clear hc e
      have HIm : Hid ((Tryd.prog.info? 59).map (·.size) = some (ints .u64 (qs [y0 + v0, y1 + v1, y2 + v2, y3 + v3, y4 + v4, y5 + v5, y6 + v6, y7 + v7])).length) := Lib.hid Tryd.arr59
      go_wp2_with (refine wpList_store_blk rfl _ _ _ rfl (A + 1 + 1) (ints .u64 (qs [y0 + v0, y1 + v1, y2 + v2, y3 + v3, y4 + v4, y5 + v5, y6 + v6, y7 + v7])) rfl rfl _ _ H3.out (by simp [ints_length, qs_length]) HIm.out (ints_one _ _) ?_; intro w8 hb8 hg8)
      simp only [Exit.jump]
      refine bodyPost_ret (result_blk rfl _ (A + 1 + 1) _ _ _ _ rfl hb8 Tryd.underlying59 HIm.out) rfl ?_
      exact ⟨by rw [HM.out], ext_grown HE.out hg8 (by omega)⟩

end Go.Proofs.YtmadoehajapfhaaDoor
