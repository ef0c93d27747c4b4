/- The walk of package sha's mixed. Each theorem names its own conditions. -/
import Derived.Test.YtmadoehajapfhaaDoorShaSch
import Derived.Test.YtmadoehajapfhaaDoorGlobKit
import Derived.Test.YtmadoehajapfhaaDoorDetWord
import Derived.Test.YtmadoehajapfhaaDoorScopeKit
import Derived.WalkMore
namespace Go.Proofs.YtmadoehajapfhaaDoor
open Go.RowKit
set_option linter.unusedVariables false
set_option linter.unusedSimpArgs false

/-- The digest with one more block. -/
def mixF (h : List W32) (x : List UInt8) : List W32 := hAdd h (vRun h (wSch x 0 48) 64) 8
theorem mixF_length (h : List W32) (x : List UInt8) : (mixF h x).length = h.length := hAdd_length _ _ _
/-- The variable roots reads as the text lays it. -/
def GlobR (w : World) : Prop := w.rangeAt 2 0 (ints .u32 (ws K256))
theorem GlobR.ext {w w' : World} (h : GlobR w) (hb : Ext w w') : GlobR w' := glob_ext h hb
theorem GlobR.cell {w : World} (h : GlobR w) {j : Nat} (hj : j < 64) : w.cell? ⟨2, j, none⟩ = some (.int .u32 (wi (K256.getD j 0#32))) := by
  have := h j (.int .u32 (wi (K256.getD j 0#32))) (by rw [ints_get (by rw [ws_length]; exact hj), ws_getD])
  simpa using this

theorem hAdd8 : ∀ (h v : List W32), h.length = 8 → v.length = 8 → hAdd h v 8 = [h.getD 0 0#32 + v.getD 0 0#32, h.getD 1 0#32 + v.getD 1 0#32, h.getD 2 0#32 + v.getD 2 0#32, h.getD 3 0#32 + v.getD 3 0#32, h.getD 4 0#32 + v.getD 4 0#32, h.getD 5 0#32 + v.getD 5 0#32, h.getD 6 0#32 + v.getD 6 0#32, h.getD 7 0#32 + v.getD 7 0#32]
  | [_, _, _, _, _, _, _, _], [_, _, _, _, _, _, _, _], _, _ => rfl
/-- What stands at the label, behind k rounds. -/
def MixJ (h : List W32) (cs : List UInt8) (A : Nat) (wb : World) (a : Act) (w : World) : Prop :=
  ∃ k B : Nat, k ≤ 64 ∧ Blk w A (ints .u32 (ws h)) 45 ∧ Blk w (A + 1 + 1) (ints .u32 (List.replicate 8 0)) 45 ∧ Blk w B (ints .u32 (ws (wSch cs 0 48))) 42 ∧ Ext wb w ∧
  ∃ u : Nat → Value, a = { tmps := #[.agg (ints .u32 (ws h)).toArray, .agg (cs.map bval).toArray, .pointer (some ⟨A, 0, none⟩), .pointer (some ⟨A + 1, 0, none⟩), .pointer (some ⟨A + 1 + 1, 0, none⟩), .pointer (some ⟨B, 0, none⟩),
    .int .u32 (wi ((vRun h (wSch cs 0 48) k).getD 0 0#32)), .int .u32 (wi ((vRun h (wSch cs 0 48) k).getD 1 0#32)), .int .u32 (wi ((vRun h (wSch cs 0 48) k).getD 2 0#32)), .int .u32 (wi ((vRun h (wSch cs 0 48) k).getD 3 0#32)), .int .u32 (wi ((vRun h (wSch cs 0 48) k).getD 4 0#32)), .int .u32 (wi ((vRun h (wSch cs 0 48) k).getD 5 0#32)), .int .u32 (wi ((vRun h (wSch cs 0 48) k).getD 6 0#32)), .int .u32 (wi ((vRun h (wSch cs 0 48) k).getD 7 0#32)), .int .i64 (k : Int), u 15, u 16, u 17, u 18, u 19, u 20, u 21, u 22, u 23, u 24, u 25, u 26, u 27, u 28, u 29, u 30, u 31, u 32, u 33, u 34, u 35, u 36, u 37, u 38, u 39, u 40, u 41, u 42, u 43, u 44, u 45, u 46, u 47, u 48, u 49, u 50, u 51, u 52, u 53, u 54, u 55, u 56, u 57, u 58, u 59, u 60, u 61, u 62, u 63, u 64, u 65, u 66, u 67, u 68, u 69, u 70, u 71, u 72, u 73, u 74, u 75, u 76, u 77, u 78, u 79, u 80, u 81, u 82, u 83, u 84, u 85, u 86, u 87, u 88, u 89, u 90, u 91, u 92, u 93, u 94, u 95, u 96, u 97, u 98, u 99, u 100, u 101, u 102, u 103, u 104, u 105, u 106, u 107, u 108, u 109, u 110, u 111, u 112, u 113, u 114, u 115, u 116, u 117, u 118], defers := [] }

set_option maxRecDepth 100000 in
set_option maxHeartbeats 8000000 in
theorem mixed_any (h : List W32) (cs : List UInt8) (w : World) (hh : h.length = 8) (hl : cs.length = 64) (hG : GlobR w) :
    Calls Tryd.prog 24 #[.agg (ints .u32 (ws h)).toArray, .agg (cs.map bval).toArray] w fun e w' => e = .returned (.agg (ints .u32 (ws (mixF h cs))).toArray) ∧ Below w.heap.size w w' := by
  have HL := Lib.hid hl
  have HH := Lib.hid hh
  have HG := Lib.hid hG
  have HB := Lib.hid (boxes3u w (ints .u32 (ws h)) (cs.map bval) (ints .u32 (List.replicate 8 0)) 45 50 45)
  have HIr : Hid ((Tryd.prog.info? 50).map (·.size) = some (cs.map bval).length) := Lib.hid (by rw [List.length_map, hl]; exact Tryd.arr50)
  clear hl hh hG
  go_enter Tryd.func24, Tryd.ntmps24
  go_upto_region 1 with (fail)
  obtain ⟨H1, H2, H3, HE⟩ := HB.out
  change Code.wp _ _ _ _ (((w.alloc (.cells (ints .u32 (ws h)).toArray 45)).alloc (.cells (cs.map bval).toArray 50)).alloc (.cells (ints .u32 (List.replicate 8 0)).toArray 45))
  generalize (((w.alloc (.cells (ints .u32 (ws h)).toArray 45)).alloc (.cells (cs.map bval).toArray 50)).alloc (.cells (ints .u32 (List.replicate 8 0)).toArray 45)) = w3 at *
  obtain ⟨A, hA⟩ : ∃ A, A = w.heap.size := ⟨_, rfl⟩
  rw [← hA] at H1 H2 H3 ⊢
  have hA2 : w.heap.size ≤ A := by omega
  have H1 := Lib.hid H1
  have H2 := Lib.hid H2
  have H3 := Lib.hid H3
  have HE : Hid (Ext w w3) := Lib.hid HE
  clear hA HB
  refine wp_scope_back0 0 (MixJ h cs A w) (fun a' _ => 64 - (intOf (a'.tmps.getD 14 undef)).toNat) rfl ?_ ?_
  · intro HP
    have HP := Lib.hid HP
    go_wp2_with (refine wpList_load_blk rfl _ _ rfl (A + 1) rfl _ _ _ _ H2.out Tryd.underlying50 HIr.out ?_)
    refine (schedule_any cs w3 HL.out).mono ?_
    rintro e w4 ⟨rfl, hb⟩
    have H1 := Lib.hid (ext_blk H1.out hb)
    have H3 := Lib.hid (ext_blk H3.out hb)
    have HE := Lib.hid (HE.out.trans hb)
    clear hb H2
    have HZ := Lib.hid (Blk.made w4 (ints .u32 (List.replicate 64 0)) 42)
    have H1L := Lib.hid H1.out.lt
    have H3L := Lib.hid H3.out.lt
    have H1 := Lib.hid (H1.out.alloc (.cells (ints .u32 (List.replicate 64 0)).toArray 42))
    have H3 := Lib.hid (H3.out.alloc (.cells (ints .u32 (List.replicate 64 0)).toArray 42))
    have HS4 := Lib.hid HE.out.size
    have HE := Lib.hid (HE.out.trans (Ext.alloc w4 (.cells (ints .u32 (List.replicate 64 0)).toArray 42)))
    have HLE : Hid ((ints .u32 (ws (wSch cs 0 48))).length = (ints .u32 (List.replicate 64 0)).length) := Lib.hid (by rw [ints_length, ws_length, wSch_length, ints_length, List.length_replicate])
    have HIw : Hid ((Tryd.prog.info? 42).map (·.size) = some (ints .u32 (ws (wSch cs 0 48))).length) := Lib.hid (by rw [ints_length, ws_length, wSch_length]; exact Tryd.arr42)
    go_wp2_with (refine wpList_store_blk rfl _ _ _ rfl w4.heap.size (ints .u32 (ws (wSch cs 0 48))) rfl rfl _ _ HZ.out HLE.out HIw.out (ints_one _ _) ?_; intro w5 hb5 hg5)
    have H1 := Lib.hid (H1.out.grown hg5 (by have := H1L.out; simp; omega))
    have H3 := Lib.hid (H3.out.grown hg5 (by have := H3L.out; simp; omega))
    have HE := Lib.hid (ext_grown HE.out hg5 HS4.out)
    have H4 := Lib.hid hb5
    generalize w4.heap.size = B at *
    clear hb5 hg5 HZ H1L H3L HS4 HLE HIw
    go_wp2_with fail
    refine wp_region_all (by kernel_rfl) (by kernel_rfl) ?_
    refine det_index _ _ _ _ A 8 0 (by rfl) rfl rfl rfl Tryd.underlying45 (by omega) (Tryd.sizeOf39) ?_
    simp only [Act.put, List.setIfInBounds_toArray, List.set_cons_zero, List.set_cons_succ]
    refine det_cell _ _ A 0 (.int .u32 (wi (h.getD 0 0#32))) (by rfl) rfl rfl (fun w hw => blk_w (ext_blk H1.out hw) (by rw [HH.out]; omega)) (Tryd.isAgg39) ?_
    simp only [Act.put, List.setIfInBounds_toArray, List.set_cons_zero, List.set_cons_succ]
    refine det_index _ _ _ _ A 8 1 (by rfl) rfl rfl rfl Tryd.underlying45 (by omega) (Tryd.sizeOf39) ?_
    simp only [Act.put, List.setIfInBounds_toArray, List.set_cons_zero, List.set_cons_succ]
    refine det_cell _ _ A 1 (.int .u32 (wi (h.getD 1 0#32))) (by rfl) rfl rfl (fun w hw => blk_w (ext_blk H1.out hw) (by rw [HH.out]; omega)) (Tryd.isAgg39) ?_
    simp only [Act.put, List.setIfInBounds_toArray, List.set_cons_zero, List.set_cons_succ]
    refine det_index _ _ _ _ A 8 2 (by rfl) rfl rfl rfl Tryd.underlying45 (by omega) (Tryd.sizeOf39) ?_
    simp only [Act.put, List.setIfInBounds_toArray, List.set_cons_zero, List.set_cons_succ]
    refine det_cell _ _ A 2 (.int .u32 (wi (h.getD 2 0#32))) (by rfl) rfl rfl (fun w hw => blk_w (ext_blk H1.out hw) (by rw [HH.out]; omega)) (Tryd.isAgg39) ?_
    simp only [Act.put, List.setIfInBounds_toArray, List.set_cons_zero, List.set_cons_succ]
    refine det_index _ _ _ _ A 8 3 (by rfl) rfl rfl rfl Tryd.underlying45 (by omega) (Tryd.sizeOf39) ?_
    simp only [Act.put, List.setIfInBounds_toArray, List.set_cons_zero, List.set_cons_succ]
    refine det_cell _ _ A 3 (.int .u32 (wi (h.getD 3 0#32))) (by rfl) rfl rfl (fun w hw => blk_w (ext_blk H1.out hw) (by rw [HH.out]; omega)) (Tryd.isAgg39) ?_
    simp only [Act.put, List.setIfInBounds_toArray, List.set_cons_zero, List.set_cons_succ]
    refine det_index _ _ _ _ A 8 4 (by rfl) rfl rfl rfl Tryd.underlying45 (by omega) (Tryd.sizeOf39) ?_
    simp only [Act.put, List.setIfInBounds_toArray, List.set_cons_zero, List.set_cons_succ]
    refine det_cell _ _ A 4 (.int .u32 (wi (h.getD 4 0#32))) (by rfl) rfl rfl (fun w hw => blk_w (ext_blk H1.out hw) (by rw [HH.out]; omega)) (Tryd.isAgg39) ?_
    simp only [Act.put, List.setIfInBounds_toArray, List.set_cons_zero, List.set_cons_succ]
    refine det_index _ _ _ _ A 8 5 (by rfl) rfl rfl rfl Tryd.underlying45 (by omega) (Tryd.sizeOf39) ?_
    simp only [Act.put, List.setIfInBounds_toArray, List.set_cons_zero, List.set_cons_succ]
    refine det_cell _ _ A 5 (.int .u32 (wi (h.getD 5 0#32))) (by rfl) rfl rfl (fun w hw => blk_w (ext_blk H1.out hw) (by rw [HH.out]; omega)) (Tryd.isAgg39) ?_
    simp only [Act.put, List.setIfInBounds_toArray, List.set_cons_zero, List.set_cons_succ]
    refine det_index _ _ _ _ A 8 6 (by rfl) rfl rfl rfl Tryd.underlying45 (by omega) (Tryd.sizeOf39) ?_
    simp only [Act.put, List.setIfInBounds_toArray, List.set_cons_zero, List.set_cons_succ]
    refine det_cell _ _ A 6 (.int .u32 (wi (h.getD 6 0#32))) (by rfl) rfl rfl (fun w hw => blk_w (ext_blk H1.out hw) (by rw [HH.out]; omega)) (Tryd.isAgg39) ?_
    simp only [Act.put, List.setIfInBounds_toArray, List.set_cons_zero, List.set_cons_succ]
    refine det_index _ _ _ _ A 8 7 (by rfl) rfl rfl rfl Tryd.underlying45 (by omega) (Tryd.sizeOf39) ?_
    simp only [Act.put, List.setIfInBounds_toArray, List.set_cons_zero, List.set_cons_succ]
    refine det_cell _ _ A 7 (.int .u32 (wi (h.getD 7 0#32))) (by rfl) rfl rfl (fun w hw => blk_w (ext_blk H1.out hw) (by rw [HH.out]; omega)) (Tryd.isAgg39) ?_
    simp only [Act.put, List.setIfInBounds_toArray, List.set_cons_zero, List.set_cons_succ]
    refine det_assign _ (.int .u32 (wi (h.getD 0 0#32))) (by rfl) rfl rfl ?_
    simp only [Act.put, List.setIfInBounds_toArray, List.set_cons_zero, List.set_cons_succ]
    refine det_assign _ (.int .u32 (wi (h.getD 1 0#32))) (by rfl) rfl rfl ?_
    simp only [Act.put, List.setIfInBounds_toArray, List.set_cons_zero, List.set_cons_succ]
    refine det_assign _ (.int .u32 (wi (h.getD 2 0#32))) (by rfl) rfl rfl ?_
    simp only [Act.put, List.setIfInBounds_toArray, List.set_cons_zero, List.set_cons_succ]
    refine det_assign _ (.int .u32 (wi (h.getD 3 0#32))) (by rfl) rfl rfl ?_
    simp only [Act.put, List.setIfInBounds_toArray, List.set_cons_zero, List.set_cons_succ]
    refine det_assign _ (.int .u32 (wi (h.getD 4 0#32))) (by rfl) rfl rfl ?_
    simp only [Act.put, List.setIfInBounds_toArray, List.set_cons_zero, List.set_cons_succ]
    refine det_assign _ (.int .u32 (wi (h.getD 5 0#32))) (by rfl) rfl rfl ?_
    simp only [Act.put, List.setIfInBounds_toArray, List.set_cons_zero, List.set_cons_succ]
    refine det_assign _ (.int .u32 (wi (h.getD 6 0#32))) (by rfl) rfl rfl ?_
    simp only [Act.put, List.setIfInBounds_toArray, List.set_cons_zero, List.set_cons_succ]
    refine det_assign _ (.int .u32 (wi (h.getD 7 0#32))) (by rfl) rfl rfl ?_
    simp only [Act.put, List.setIfInBounds_toArray, List.set_cons_zero, List.set_cons_succ]
    refine det_nil (fun w6 hw6 => ?_)
    have H1 := Lib.hid (ext_blk H1.out hw6)
    have H3 := Lib.hid (ext_blk H3.out hw6)
    have H4 := Lib.hid (ext_blk H4.out hw6)
    have HE := Lib.hid (HE.out.trans hw6)
    clear hw6
    go_wp2_with fail
    go_step3
    rename_i hK
    refine hK _ _ (HP.out _ _ ?_)
    exact ⟨0, B, by omega, H1.out, H3.out, H4.out, HE.out, fun n => ([_, _, _, _, _, _, _, _, _, _, _, _, _, _, _, _, _, _, _, _, _, _, _, _, _, _, _, _, _, _, _, _, _, _, _, _, _, _, _, _, _, _, _, _, _, _, _, _, _, _, _, _, _, _, _, _, _, _, _, _, _, _, _, _, _, _, _, _, _, _, _, _, _, _, _, _, _, _, _, _, _, _, _, _, _, _, _, _, _, _, _, _, _, _, _, _, _, _, _, _, _, _, _, _] : List Value).getD (n - 15) undef, rfl⟩
  · rintro a w7 ⟨k, B, hk, h1, h3, h4, hE, u, rfl⟩
    have H1 := Lib.hid h1
    have H3 := Lib.hid h3
    have H4 := Lib.hid h4
    have HE := Lib.hid hE
    clear h1 h3 h4 hE
    have hvl := vRun_length h (wSch cs 0 48) HH.out k
    by_cases hlt : k < 64
    · have k1 : (k : Int) < 64 := by omega
      have k0 : (0 : Int) ≤ (k : Int) := Int.natCast_nonneg _
      have HWK : Hid (∀ w', Blk w' B (ints .u32 (ws (wSch cs 0 48))) 42 → w'.cell? ⟨B, k, none⟩ = some (.int .u32 (wi ((wSch cs 0 48).getD k 0#32)))) := Lib.hid (fun w' h => blk_w h (by rw [wSch_length]; exact hlt))
      have HKK : Hid (∀ w', Ext w7 w' → w'.cell? ⟨2, k, none⟩ = some (.int .u32 (wi (K256.getD k 0#32)))) := Lib.hid (fun w' h => (HG.out.ext (HE.out.trans h)).cell hlt)
      have HRN : Hid (∀ j, (vRun h (wSch cs 0 48) (k + 1)).getD j 0#32 = (rnd (vRun h (wSch cs 0 48) k) (K256.getD k 0#32) ((wSch cs 0 48).getD k 0#32)).getD j 0#32) := Lib.hid (fun _ => rfl)
      unfold rnd at HRN
      generalize K256.getD k 0#32 = kk at *
      generalize (wSch cs 0 48).getD k 0#32 = wk at *
      generalize (vRun h (wSch cs 0 48) k).getD 0 0#32 = v0 at *
      generalize (vRun h (wSch cs 0 48) k).getD 1 0#32 = v1 at *
      generalize (vRun h (wSch cs 0 48) k).getD 2 0#32 = v2 at *
      generalize (vRun h (wSch cs 0 48) k).getD 3 0#32 = v3 at *
      generalize (vRun h (wSch cs 0 48) k).getD 4 0#32 = v4 at *
      generalize (vRun h (wSch cs 0 48) k).getD 5 0#32 = v5 at *
      generalize (vRun h (wSch cs 0 48) k).getD 6 0#32 = v6 at *
      generalize (vRun h (wSch cs 0 48) k).getD 7 0#32 = v7 at *
      go_wp2_with fail
      refine wp_region_all (by kernel_rfl) (by kernel_rfl) ?_
      refine det_move _ (.int .u32 (wi v7)) (by rfl) rfl rfl ?_
      simp only [Act.put, List.setIfInBounds_toArray, List.set_cons_zero, List.set_cons_succ]
      refine det_move _ (.int .u32 (wi v4)) (by rfl) rfl rfl ?_
      simp only [Act.put, List.setIfInBounds_toArray, List.set_cons_zero, List.set_cons_succ]
      refine det_call _ _ _ [.int .u32 (wi v4), .int .i64 6, .int .i64 11, .int .i64 25] (.int .u32 (wi (rotr v4 6 ^^^ rotr v4 11 ^^^ rotr v4 25))) (by rfl) rfl Tryd.call34 rfl (fun w hw => sum_ext v4 6 11 25 (by omega) (by omega) (by omega) (by omega) (by omega) (by omega) w) ?_
      simp only [Act.put, List.setIfInBounds_toArray, List.set_cons_zero, List.set_cons_succ]
      refine det_add _ _ _ _ _ _ _ (wi (v7 + (rotr v4 6 ^^^ rotr v4 11 ^^^ rotr v4 25))) (by rfl) rfl rfl rfl (wi_add _ _) ?_
      simp only [Act.put, List.setIfInBounds_toArray, List.set_cons_zero, List.set_cons_succ]
      refine det_move _ (.int .u32 (wi v4)) (by rfl) rfl rfl ?_
      simp only [Act.put, List.setIfInBounds_toArray, List.set_cons_zero, List.set_cons_succ]
      refine det_move _ (.int .u32 (wi v5)) (by rfl) rfl rfl ?_
      simp only [Act.put, List.setIfInBounds_toArray, List.set_cons_zero, List.set_cons_succ]
      refine det_and _ _ _ _ _ _ _ (wi (v4 &&& v5)) (by rfl) rfl rfl rfl (wi_and _ _) ?_
      simp only [Act.put, List.setIfInBounds_toArray, List.set_cons_zero, List.set_cons_succ]
      refine det_move _ (.int .u32 (wi v4)) (by rfl) rfl rfl ?_
      simp only [Act.put, List.setIfInBounds_toArray, List.set_cons_zero, List.set_cons_succ]
      refine det_winot _ _ v4 (by rfl) rfl rfl ?_
      simp only [Act.put, List.setIfInBounds_toArray, List.set_cons_zero, List.set_cons_succ]
      refine det_move _ (.int .u32 (wi v6)) (by rfl) rfl rfl ?_
      simp only [Act.put, List.setIfInBounds_toArray, List.set_cons_zero, List.set_cons_succ]
      refine det_and _ _ _ _ _ _ _ (wi ((~~~v4) &&& v6)) (by rfl) rfl rfl rfl (wi_and _ _) ?_
      simp only [Act.put, List.setIfInBounds_toArray, List.set_cons_zero, List.set_cons_succ]
      refine det_xor _ _ _ _ _ _ _ (wi ((v4 &&& v5) ^^^ ((~~~v4) &&& v6))) (by rfl) rfl rfl rfl (wi_xor _ _) ?_
      simp only [Act.put, List.setIfInBounds_toArray, List.set_cons_zero, List.set_cons_succ]
      refine det_add _ _ _ _ _ _ _ (wi ((v7 + (rotr v4 6 ^^^ rotr v4 11 ^^^ rotr v4 25)) + ((v4 &&& v5) ^^^ ((~~~v4) &&& v6)))) (by rfl) rfl rfl rfl (wi_add _ _) ?_
      simp only [Act.put, List.setIfInBounds_toArray, List.set_cons_zero, List.set_cons_succ]
      refine det_move _ (.int .i64 ((k : Nat) : Int)) (by rfl) rfl rfl ?_
      simp only [Act.put, List.setIfInBounds_toArray, List.set_cons_zero, List.set_cons_succ]
      refine det_index _ _ _ _ 2 64 k (by rfl) rfl rfl rfl Tryd.underlying42 (by omega) (Tryd.sizeOf39) ?_
      simp only [Act.put, List.setIfInBounds_toArray, List.set_cons_zero, List.set_cons_succ]
      refine det_cell _ _ 2 k (.int .u32 (wi kk)) (by rfl) rfl rfl (fun w hw => HKK.out _ hw) (Tryd.isAgg39) ?_
      simp only [Act.put, List.setIfInBounds_toArray, List.set_cons_zero, List.set_cons_succ]
      refine det_add _ _ _ _ _ _ _ (wi (((v7 + (rotr v4 6 ^^^ rotr v4 11 ^^^ rotr v4 25)) + ((v4 &&& v5) ^^^ ((~~~v4) &&& v6))) + kk)) (by rfl) rfl rfl rfl (wi_add _ _) ?_
      simp only [Act.put, List.setIfInBounds_toArray, List.set_cons_zero, List.set_cons_succ]
      refine det_move _ (.int .i64 ((k : Nat) : Int)) (by rfl) rfl rfl ?_
      simp only [Act.put, List.setIfInBounds_toArray, List.set_cons_zero, List.set_cons_succ]
      refine det_index _ _ _ _ B 64 k (by rfl) rfl rfl rfl Tryd.underlying42 (by omega) (Tryd.sizeOf39) ?_
      simp only [Act.put, List.setIfInBounds_toArray, List.set_cons_zero, List.set_cons_succ]
      refine det_cell _ _ B k (.int .u32 (wi wk)) (by rfl) rfl rfl (fun w hw => HWK.out _ (ext_blk H4.out hw)) (Tryd.isAgg39) ?_
      simp only [Act.put, List.setIfInBounds_toArray, List.set_cons_zero, List.set_cons_succ]
      refine det_add _ _ _ _ _ _ _ (wi ((((v7 + (rotr v4 6 ^^^ rotr v4 11 ^^^ rotr v4 25)) + ((v4 &&& v5) ^^^ ((~~~v4) &&& v6))) + kk) + wk)) (by rfl) rfl rfl rfl (wi_add _ _) ?_
      simp only [Act.put, List.setIfInBounds_toArray, List.set_cons_zero, List.set_cons_succ]
      refine det_assign _ (.int .u32 (wi ((((v7 + (rotr v4 6 ^^^ rotr v4 11 ^^^ rotr v4 25)) + ((v4 &&& v5) ^^^ ((~~~v4) &&& v6))) + kk) + wk))) (by rfl) rfl rfl ?_
      simp only [Act.put, List.setIfInBounds_toArray, List.set_cons_zero, List.set_cons_succ]
      refine det_nil (fun w1 hw1 => ?_)
      have H1 := Lib.hid (ext_blk H1.out hw1)
      have H3 := Lib.hid (ext_blk H3.out hw1)
      have H4 := Lib.hid (ext_blk H4.out hw1)
      have HE := Lib.hid (HE.out.trans hw1)
      clear hw1
      generalize ht : (((v7 + (rotr v4 6 ^^^ rotr v4 11 ^^^ rotr v4 25)) + ((v4 &&& v5) ^^^ ((~~~v4) &&& v6))) + kk) + wk = t at *
      have HT := Lib.hid ht
      clear ht
      go_wp2_with fail
      have q1 : bits .and .u32 (wi v0) (wi v1) = wi (v0 &&& v1) := wi_and _ _
      have q2 : bits .and .u32 (wi v0) (wi v2) = wi (v0 &&& v2) := wi_and _ _
      have q3 : bits .and .u32 (wi v1) (wi v2) = wi (v1 &&& v2) := wi_and _ _
      have q4 : bits .xor .u32 (wi (v0 &&& v1)) (wi (v0 &&& v2)) = wi (v0 &&& v1 ^^^ v0 &&& v2) := wi_xor _ _
      have q5 : bits .xor .u32 (wi (v0 &&& v1 ^^^ v0 &&& v2)) (wi (v1 &&& v2)) = wi (v0 &&& v1 ^^^ v0 &&& v2 ^^^ v1 &&& v2) := wi_xor _ _
      obtain ⟨u16, hu⟩ : ∃ x : W32, x = (rotr v0 2 ^^^ rotr v0 13 ^^^ rotr v0 22) + (v0 &&& v1 ^^^ v0 &&& v2 ^^^ v1 &&& v2) := ⟨_, rfl⟩
      have q6 : (wi (rotr v0 2 ^^^ rotr v0 13 ^^^ rotr v0 22) + wi (v0 &&& v1 ^^^ v0 &&& v2 ^^^ v1 &&& v2)) % 4294967296 = wi u16 := by rw [hu, ← wi_add, IntKind.wrap_u32]
      have q7 : (wi t + wi u16) % 4294967296 = wi (t + u16) := by rw [← wi_add, IntKind.wrap_u32]
      have q8 : (wi v3 + wi t) % 4294967296 = wi (v3 + t) := by rw [← wi_add, IntKind.wrap_u32]
      have HU := Lib.hid hu
      clear hu
      refine (sum_any v0 2 13 22 (by omega) (by omega) (by omega) (by omega) (by omega) (by omega) w1).mono ?_
      rintro e w2 ⟨rfl, rfl⟩
      go_wp2_with fail
      clear q1 q2 q3 q4 q5 q6
      go_step3
      have r0 : (vRun h (wSch cs 0 48) (k + 1)).getD 0 0#32 = t + u16 := by rw [HRN.out, ← HT.out, HU.out]; rfl
      have r4 : (vRun h (wSch cs 0 48) (k + 1)).getD 4 0#32 = v3 + t := by rw [HRN.out, ← HT.out]; rfl
      have r1 : (vRun h (wSch cs 0 48) (k + 1)).getD 1 0#32 = v0 := HRN.out 1
      have r2 : (vRun h (wSch cs 0 48) (k + 1)).getD 2 0#32 = v1 := HRN.out 2
      have r3 : (vRun h (wSch cs 0 48) (k + 1)).getD 3 0#32 = v2 := HRN.out 3
      have r5 : (vRun h (wSch cs 0 48) (k + 1)).getD 5 0#32 = v4 := HRN.out 5
      have r6 : (vRun h (wSch cs 0 48) (k + 1)).getD 6 0#32 = v5 := HRN.out 6
      have r7 : (vRun h (wSch cs 0 48) (k + 1)).getD 7 0#32 = v6 := HRN.out 7
      have hk1 : ((k + 1 : Nat) : Int) = (k : Int) + 1 := by omega
      rw [q7, q8, ← r0, ← r4, ← r1, ← r2, ← r3, ← r5, ← r6, ← r7, ← hk1]
      change (0 = 0 ∧ (MixJ h cs A w _ _ ∧ _ < _))
      refine ⟨rfl, ⟨k + 1, B, by omega, H1.out, H3.out, H4.out, HE.out, fun n => ([_, _, _, _, _, _, _, _, _, _, _, _, _, _, _, _, _, _, _, _, _, _, _, _, _, _, _, _, _, _, _, _, _, _, _, _, _, _, _, _, _, _, _, _, _, _, _, _, _, _, _, _, _, _, _, _, _, _, _, _, _, _, _, _, _, _, _, _, _, _, _, _, _, _, _, _, _, _, _, _, _, _, _, _, _, _, _, _, _, _, _, _, _, _, _, _, _, _, _, _, _, _, _, _] : List Value).getD (n - 15) undef, rfl⟩, ?_⟩
      · show 64 - (intOf (.int .i64 ((k + 1 : Nat) : Int))).toNat < 64 - (intOf (.int .i64 (k : Int))).toNat
        simp [intOf]
        omega
    · have hk64 : k = 64 := by omega
      subst hk64
      have e := hAdd8 h (vRun h (wSch cs 0 48) 64) HH.out hvl
      have HM : Hid (mixF h cs = _) := Lib.hid e
      have hc : ∀ j, j < 8 → w7.cell? ⟨A, j, none⟩ = some (.int .u32 (wi (h.getD j 0#32))) := fun j hj => blk_w H1.out (by rw [HH.out]; exact hj)
      have c0 := hc 0 (by omega)
      have c1 := hc 1 (by omega)
      have c2 := hc 2 (by omega)
      have c3 := hc 3 (by omega)
      have c4 := hc 4 (by omega)
      have c5 := hc 5 (by omega)
      have c6 := hc 6 (by omega)
      have c7 := hc 7 (by omega)
      generalize (vRun h (wSch cs 0 48) 64).getD 0 0#32 = v0 at *
      generalize h.getD 0 0#32 = y0 at *
      have s0 : (wi y0 + wi v0) % 4294967296 = wi (y0 + v0) := by rw [← wi_add, IntKind.wrap_u32]
      generalize (vRun h (wSch cs 0 48) 64).getD 1 0#32 = v1 at *
      generalize h.getD 1 0#32 = y1 at *
      have s1 : (wi y1 + wi v1) % 4294967296 = wi (y1 + v1) := by rw [← wi_add, IntKind.wrap_u32]
      generalize (vRun h (wSch cs 0 48) 64).getD 2 0#32 = v2 at *
      generalize h.getD 2 0#32 = y2 at *
      have s2 : (wi y2 + wi v2) % 4294967296 = wi (y2 + v2) := by rw [← wi_add, IntKind.wrap_u32]
      generalize (vRun h (wSch cs 0 48) 64).getD 3 0#32 = v3 at *
      generalize h.getD 3 0#32 = y3 at *
      have s3 : (wi y3 + wi v3) % 4294967296 = wi (y3 + v3) := by rw [← wi_add, IntKind.wrap_u32]
      generalize (vRun h (wSch cs 0 48) 64).getD 4 0#32 = v4 at *
      generalize h.getD 4 0#32 = y4 at *
      have s4 : (wi y4 + wi v4) % 4294967296 = wi (y4 + v4) := by rw [← wi_add, IntKind.wrap_u32]
      generalize (vRun h (wSch cs 0 48) 64).getD 5 0#32 = v5 at *
      generalize h.getD 5 0#32 = y5 at *
      have s5 : (wi y5 + wi v5) % 4294967296 = wi (y5 + v5) := by rw [← wi_add, IntKind.wrap_u32]
      generalize (vRun h (wSch cs 0 48) 64).getD 6 0#32 = v6 at *
      generalize h.getD 6 0#32 = y6 at *
      have s6 : (wi y6 + wi v6) % 4294967296 = wi (y6 + v6) := by rw [← wi_add, IntKind.wrap_u32]
      generalize (vRun h (wSch cs 0 48) 64).getD 7 0#32 = v7 at *
      generalize h.getD 7 0#32 = y7 at *
      have s7 : (wi y7 + wi v7) % 4294967296 = wi (y7 + v7) := by rw [← wi_add, IntKind.wrap_u32]
      clear hc e
      have HIm : Hid ((Tryd.prog.info? 45).map (·.size) = some (ints .u32 (ws [y0 + v0, y1 + v1, y2 + v2, y3 + v3, y4 + v4, y5 + v5, y6 + v6, y7 + v7])).length) := Lib.hid Tryd.arr45
      go_wp2_with (refine wpList_store_blk rfl _ _ _ rfl (A + 1 + 1) (ints .u32 (ws [y0 + v0, y1 + v1, y2 + v2, y3 + v3, y4 + v4, y5 + v5, y6 + v6, y7 + v7])) rfl rfl _ _ H3.out (by simp [ints_length, ws_length]) HIm.out (ints_one _ _) ?_; intro w8 hb8 hg8)
      simp only [Exit.jump]
      refine bodyPost_ret (result_blk rfl _ (A + 1 + 1) _ _ _ _ rfl hb8 Tryd.underlying45 HIm.out) rfl ?_
      exact ⟨by rw [HM.out], ext_grown HE.out hg8 (by omega)⟩

end Go.Proofs.YtmadoehajapfhaaDoor
