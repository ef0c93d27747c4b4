/- Texts that belong together, one behind the other; each says in its own first remark what it shows. -/
import Derived.ScopeJumps
import Derived.Control
import Derived.Test.YtcadfccijeodbaaDoorShaSch
import Derived.Test.YtcadfccijeodbaaDoorGlobKit
import Derived.Test.YtcadfccijeodbaaDoorDetWord
import Derived.WalkMore
import Derived.Test.YtcadfccijeodbaaDoorMerSpec
import Derived.Test.YtcadfccijeodbaaDoorLawKit
import Derived.Lib.Strings
import Derived.Lib.Slices
import Derived.Lib.Small
import Derived.Lib.Walk
import Derived.Lib.BitFns
import Derived.Test.YtcadfccijeodbaaDoorNumsMore
import Derived.Test.YtcadfccijeodbaaDoorProg
import Derived.ProofKit
import Derived.Test.YtcadfccijeodbaaDoorDetLoad
import Derived.Test.YtcadfccijeodbaaDoorByteKit
import Derived.Test.YtcadfccijeodbaaDoorDetEnds
import Derived.Test.YtcadfccijeodbaaDoorRowMore
import Derived.Test.YtcadfccijeodbaaDoorRowCut
import Derived.Test.YtcadfccijeodbaaDoorArrKit
import Derived.Test.YtcadfccijeodbaaDoorInfoKit
import Derived.Laws.CopyOwn
import Derived.Deep.CutRange
import Derived.Deep.RegionWith
import Derived.StillTailTactics
import Derived.Test.YtcadfccijeodbaaDoorDigKit
import Derived.Test.YtcadfccijeodbaaDoorRefMer
import Derived.Test.YtcadfccijeodbaaDoorRefMerC
import Derived.Test.YtcadfccijeodbaaDoorHeldMore
import Derived.Test.YtcadfccijeodbaaDoorDetTail
import Derived.Lib.SlBytesConst

/- A scope in which the run jumps back to one label: what stands at each jump is proved to serve once, and the way to the label uses it. Nothing here speaks of a program. Each theorem names its own conditions. -/
namespace Go.Proofs.YtcadfccijeodbaaDoor
set_option linter.unusedVariables false

section
variable {P : Program} {a : Act} {w : World} {Q : Exit → Act → World → Prop}
theorem Exit.jump_mono {l : Nat} {J J' : Act → World → Prop} (h : ∀ a w, J a w → J' a w) : ∀ {e : Exit} {a : Act} {w : World}, Exit.jump l J Q e a w → Exit.jump l J' Q e a w
  | .goto _, _, _, hh => ⟨hh.1, h _ _ hh.2⟩
  | .normal, _, _, hh => hh
  | .exit _, _, _, hh => hh
  | .ret, _, _, hh => hh
  | .panic _, _, _, hh => hh
  | .outgrown, _, _, hh => hh
theorem wp_scope_back {c rest : Code} (l : Nat) (J : Act → World → Prop) (μ : Act → World → Nat) (hf : findLabel c l = some rest)
    (first : (∀ a w, J a w → rest.wp P (Exit.jump l J Q) a w) → c.wp P (Exit.jump l J Q) a w)
    (pass : ∀ a w, J a w → rest.wp P (Exit.jump l (fun a' w' => J a' w' ∧ μ a' w' < μ a w) Q) a w) : (Code.scope c).wp P Q a w :=
  wp_scope_jumps l J μ hf (first fun a w h => Code.wp_mono (fun e a w h => Exit.jump_mono (fun _ _ h => h.1) h) (pass a w h)) pass
/-- The same, where what stands behind the label begins with nothing. -/
theorem wp_scope_back0 {c rest : Code} (l : Nat) (J : Act → World → Prop) (μ : Act → World → Nat) (hf : findLabel c l = some (Code.skip.seq rest))
    (first : (∀ a w, J a w → rest.wp P (Exit.jump l J Q) a w) → c.wp P (Exit.jump l J Q) a w)
    (pass : ∀ a w, J a w → rest.wp P (Exit.jump l (fun a' w' => J a' w' ∧ μ a' w' < μ a w) Q) a w) : (Code.scope c).wp P Q a w :=
  wp_scope_jumps l J μ hf (first fun a w h => Code.wp_mono (fun e a w h => Exit.jump_mono (fun _ _ h => h.1) h) (pass a w h)) fun a w h => wp_seq (wp_skip (pass a w h))
end

end Go.Proofs.YtcadfccijeodbaaDoor

/- The walk of package sha's mixed. Each theorem names its own conditions. -/
namespace Go.Proofs.YtcadfccijeodbaaDoor
open Go.RowKit
set_option linter.unusedVariables false
set_option linter.unusedSimpArgs false

/-- The digest with one more block. -/
def mixF (h : List W32) (x : List UInt8) : List W32 := hAdd h (vRun h (wSch x 0 48) 64) 8
theorem mixF_length (h : List W32) (x : List UInt8) : (mixF h x).length = h.length := hAdd_length _ _ _
/-- The variable roots reads as the text lays it. -/
def GlobR (w : World) : Prop := w.rangeAt 1 0 (ints .u32 (ws K256))
theorem GlobR.ext {w w' : World} (h : GlobR w) (hb : Ext w w') : GlobR w' := glob_ext h hb
theorem GlobR.cell {w : World} (h : GlobR w) {j : Nat} (hj : j < 64) : w.cell? ⟨1, j, none⟩ = some (.int .u32 (wi (K256.getD j 0#32))) := by
  have := h j (.int .u32 (wi (K256.getD j 0#32))) (by rw [ints_get (by rw [ws_length]; exact hj), ws_getD])
  simpa using this

theorem hAdd8 : ∀ (h v : List W32), h.length = 8 → v.length = 8 → hAdd h v 8 = [h.getD 0 0#32 + v.getD 0 0#32, h.getD 1 0#32 + v.getD 1 0#32, h.getD 2 0#32 + v.getD 2 0#32, h.getD 3 0#32 + v.getD 3 0#32, h.getD 4 0#32 + v.getD 4 0#32, h.getD 5 0#32 + v.getD 5 0#32, h.getD 6 0#32 + v.getD 6 0#32, h.getD 7 0#32 + v.getD 7 0#32]
  | [_, _, _, _, _, _, _, _], [_, _, _, _, _, _, _, _], _, _ => rfl
/-- What stands at the label, behind k rounds. -/
def MixJ (h : List W32) (cs : List UInt8) (A : Nat) (wb : World) (a : Act) (w : World) : Prop :=
  ∃ k B : Nat, k ≤ 64 ∧ Blk w A (ints .u32 (ws h)) 49 ∧ Blk w (A + 1 + 1) (ints .u32 (List.replicate 8 0)) 49 ∧ Blk w B (ints .u32 (ws (wSch cs 0 48))) 62 ∧ Ext wb w ∧
  ∃ u : Nat → Value, a = { tmps := #[.agg (ints .u32 (ws h)).toArray, .agg (cs.map bval).toArray, .pointer (some ⟨A, 0, none⟩), .pointer (some ⟨A + 1, 0, none⟩), .pointer (some ⟨A + 1 + 1, 0, none⟩), .pointer (some ⟨B, 0, none⟩),
    .int .u32 (wi ((vRun h (wSch cs 0 48) k).getD 0 0#32)), .int .u32 (wi ((vRun h (wSch cs 0 48) k).getD 1 0#32)), .int .u32 (wi ((vRun h (wSch cs 0 48) k).getD 2 0#32)), .int .u32 (wi ((vRun h (wSch cs 0 48) k).getD 3 0#32)), .int .u32 (wi ((vRun h (wSch cs 0 48) k).getD 4 0#32)), .int .u32 (wi ((vRun h (wSch cs 0 48) k).getD 5 0#32)), .int .u32 (wi ((vRun h (wSch cs 0 48) k).getD 6 0#32)), .int .u32 (wi ((vRun h (wSch cs 0 48) k).getD 7 0#32)), .int .i64 (k : Int), u 15, u 16, u 17, u 18, u 19, u 20, u 21, u 22, u 23, u 24, u 25, u 26, u 27, u 28, u 29, u 30, u 31, u 32, u 33, u 34, u 35, u 36, u 37, u 38, u 39, u 40, u 41, u 42, u 43, u 44, u 45, u 46, u 47, u 48, u 49, u 50, u 51, u 52, u 53, u 54, u 55, u 56, u 57, u 58, u 59, u 60, u 61, u 62, u 63, u 64, u 65, u 66, u 67, u 68, u 69, u 70, u 71, u 72, u 73, u 74, u 75, u 76, u 77, u 78, u 79, u 80, u 81, u 82, u 83, u 84, u 85, u 86, u 87, u 88, u 89, u 90, u 91, u 92, u 93, u 94, u 95, u 96, u 97, u 98, u 99, u 100, u 101, u 102, u 103, u 104, u 105, u 106, u 107, u 108, u 109, u 110, u 111, u 112, u 113, u 114, u 115, u 116, u 117, u 118], defers := [] }

set_option maxRecDepth 100000 in
set_option maxHeartbeats 8000000 in
theorem mixed_any (h : List W32) (cs : List UInt8) (w : World) (hh : h.length = 8) (hl : cs.length = 64) (hG : GlobR w) :
    Calls Tryd.prog 29 #[.agg (ints .u32 (ws h)).toArray, .agg (cs.map bval).toArray] w fun e w' => e = .returned (.agg (ints .u32 (ws (mixF h cs))).toArray) ∧ Below w.heap.size w w' := by
  have HL := Lib.hid hl
  have HH := Lib.hid hh
  have HG := Lib.hid hG
  have HB := Lib.hid (boxes3u w (ints .u32 (ws h)) (cs.map bval) (ints .u32 (List.replicate 8 0)) 49 55 49)
  have HIr : Hid ((Tryd.prog.info? 55).map (·.size) = some (cs.map bval).length) := Lib.hid (by rw [List.length_map, hl]; exact Tryd.arr55)
  clear hl hh hG
  go_enter Tryd.func29, Tryd.ntmps29
  go_upto_region 1 with (fail)
  obtain ⟨H1, H2, H3, HE⟩ := HB.out
  change Code.wp _ _ _ _ (((w.alloc (.cells (ints .u32 (ws h)).toArray 49)).alloc (.cells (cs.map bval).toArray 55)).alloc (.cells (ints .u32 (List.replicate 8 0)).toArray 49))
  generalize (((w.alloc (.cells (ints .u32 (ws h)).toArray 49)).alloc (.cells (cs.map bval).toArray 55)).alloc (.cells (ints .u32 (List.replicate 8 0)).toArray 49)) = w3 at *
  obtain ⟨A, hA⟩ : ∃ A, A = w.heap.size := ⟨_, rfl⟩
  rw [← hA] at H1 H2 H3 ⊢
  have hA2 : w.heap.size ≤ A := by omega
  have H1 := Lib.hid H1
  have H2 := Lib.hid H2
  have H3 := Lib.hid H3
  have HE : Hid (Ext w w3) := Lib.hid HE
  clear hA HB
  refine wp_scope_back0 0 (MixJ h cs A w) (fun a' _ => 64 - (intOf (a'.tmps.getD 14 undef)).toNat) rfl ?_ ?_
  · intro HP
    have HP := Lib.hid HP
    go_wp2_with (refine wpList_load_blk rfl _ _ rfl (A + 1) rfl _ _ _ _ H2.out Tryd.underlying55 HIr.out ?_)
    refine (schedule_any cs w3 HL.out).mono ?_
    rintro e w4 ⟨rfl, hb⟩
    have H1 := Lib.hid (ext_blk H1.out hb)
    have H3 := Lib.hid (ext_blk H3.out hb)
    have HE := Lib.hid (HE.out.trans hb)
    clear hb H2
    have HZ := Lib.hid (Blk.made w4 (ints .u32 (List.replicate 64 0)) 62)
    have H1L := Lib.hid H1.out.lt
    have H3L := Lib.hid H3.out.lt
    have H1 := Lib.hid (H1.out.alloc (.cells (ints .u32 (List.replicate 64 0)).toArray 62))
    have H3 := Lib.hid (H3.out.alloc (.cells (ints .u32 (List.replicate 64 0)).toArray 62))
    have HS4 := Lib.hid HE.out.size
    have HE := Lib.hid (HE.out.trans (Ext.alloc w4 (.cells (ints .u32 (List.replicate 64 0)).toArray 62)))
    have HLE : Hid ((ints .u32 (ws (wSch cs 0 48))).length = (ints .u32 (List.replicate 64 0)).length) := Lib.hid (by rw [ints_length, ws_length, wSch_length, ints_length, List.length_replicate])
    have HIw : Hid ((Tryd.prog.info? 62).map (·.size) = some (ints .u32 (ws (wSch cs 0 48))).length) := Lib.hid (by rw [ints_length, ws_length, wSch_length]; exact Tryd.arr62)
    go_wp2_with (refine wpList_store_blk rfl _ _ _ rfl w4.heap.size (ints .u32 (ws (wSch cs 0 48))) rfl rfl _ _ HZ.out HLE.out HIw.out (ints_one _ _) ?_; intro w5 hb5 hg5)
    have H1 := Lib.hid (H1.out.grown hg5 (by have := H1L.out; simp; omega))
    have H3 := Lib.hid (H3.out.grown hg5 (by have := H3L.out; simp; omega))
    have HE := Lib.hid (ext_grown HE.out hg5 HS4.out)
    have H4 := Lib.hid hb5
    generalize w4.heap.size = B at *
    clear hb5 hg5 HZ H1L H3L HS4 HLE HIw
    go_wp2_with fail
    refine wp_region_all (by kernel_rfl) (by kernel_rfl) ?_
    refine det_index _ _ _ _ A 8 0 (by rfl) rfl rfl rfl Tryd.underlying49 (by omega) (Tryd.sizeOf47) ?_
    simp only [Act.put, List.setIfInBounds_toArray, List.set_cons_zero, List.set_cons_succ]
    refine det_cell _ _ A 0 (.int .u32 (wi (h.getD 0 0#32))) (by rfl) rfl rfl (fun w hw => blk_w (ext_blk H1.out hw) (by rw [HH.out]; omega)) (Tryd.isAgg47) ?_
    simp only [Act.put, List.setIfInBounds_toArray, List.set_cons_zero, List.set_cons_succ]
    refine det_index _ _ _ _ A 8 1 (by rfl) rfl rfl rfl Tryd.underlying49 (by omega) (Tryd.sizeOf47) ?_
    simp only [Act.put, List.setIfInBounds_toArray, List.set_cons_zero, List.set_cons_succ]
    refine det_cell _ _ A 1 (.int .u32 (wi (h.getD 1 0#32))) (by rfl) rfl rfl (fun w hw => blk_w (ext_blk H1.out hw) (by rw [HH.out]; omega)) (Tryd.isAgg47) ?_
    simp only [Act.put, List.setIfInBounds_toArray, List.set_cons_zero, List.set_cons_succ]
    refine det_index _ _ _ _ A 8 2 (by rfl) rfl rfl rfl Tryd.underlying49 (by omega) (Tryd.sizeOf47) ?_
    simp only [Act.put, List.setIfInBounds_toArray, List.set_cons_zero, List.set_cons_succ]
    refine det_cell _ _ A 2 (.int .u32 (wi (h.getD 2 0#32))) (by rfl) rfl rfl (fun w hw => blk_w (ext_blk H1.out hw) (by rw [HH.out]; omega)) (Tryd.isAgg47) ?_
    simp only [Act.put, List.setIfInBounds_toArray, List.set_cons_zero, List.set_cons_succ]
    refine det_index _ _ _ _ A 8 3 (by rfl) rfl rfl rfl Tryd.underlying49 (by omega) (Tryd.sizeOf47) ?_
    simp only [Act.put, List.setIfInBounds_toArray, List.set_cons_zero, List.set_cons_succ]
    refine det_cell _ _ A 3 (.int .u32 (wi (h.getD 3 0#32))) (by rfl) rfl rfl (fun w hw => blk_w (ext_blk H1.out hw) (by rw [HH.out]; omega)) (Tryd.isAgg47) ?_
    simp only [Act.put, List.setIfInBounds_toArray, List.set_cons_zero, List.set_cons_succ]
    refine det_index _ _ _ _ A 8 4 (by rfl) rfl rfl rfl Tryd.underlying49 (by omega) (Tryd.sizeOf47) ?_
    simp only [Act.put, List.setIfInBounds_toArray, List.set_cons_zero, List.set_cons_succ]
    refine det_cell _ _ A 4 (.int .u32 (wi (h.getD 4 0#32))) (by rfl) rfl rfl (fun w hw => blk_w (ext_blk H1.out hw) (by rw [HH.out]; omega)) (Tryd.isAgg47) ?_
    simp only [Act.put, List.setIfInBounds_toArray, List.set_cons_zero, List.set_cons_succ]
    refine det_index _ _ _ _ A 8 5 (by rfl) rfl rfl rfl Tryd.underlying49 (by omega) (Tryd.sizeOf47) ?_
    simp only [Act.put, List.setIfInBounds_toArray, List.set_cons_zero, List.set_cons_succ]
    refine det_cell _ _ A 5 (.int .u32 (wi (h.getD 5 0#32))) (by rfl) rfl rfl (fun w hw => blk_w (ext_blk H1.out hw) (by rw [HH.out]; omega)) (Tryd.isAgg47) ?_
    simp only [Act.put, List.setIfInBounds_toArray, List.set_cons_zero, List.set_cons_succ]
    refine det_index _ _ _ _ A 8 6 (by rfl) rfl rfl rfl Tryd.underlying49 (by omega) (Tryd.sizeOf47) ?_
    simp only [Act.put, List.setIfInBounds_toArray, List.set_cons_zero, List.set_cons_succ]
    refine det_cell _ _ A 6 (.int .u32 (wi (h.getD 6 0#32))) (by rfl) rfl rfl (fun w hw => blk_w (ext_blk H1.out hw) (by rw [HH.out]; omega)) (Tryd.isAgg47) ?_
    simp only [Act.put, List.setIfInBounds_toArray, List.set_cons_zero, List.set_cons_succ]
    refine det_index _ _ _ _ A 8 7 (by rfl) rfl rfl rfl Tryd.underlying49 (by omega) (Tryd.sizeOf47) ?_
    simp only [Act.put, List.setIfInBounds_toArray, List.set_cons_zero, List.set_cons_succ]
    refine det_cell _ _ A 7 (.int .u32 (wi (h.getD 7 0#32))) (by rfl) rfl rfl (fun w hw => blk_w (ext_blk H1.out hw) (by rw [HH.out]; omega)) (Tryd.isAgg47) ?_
    simp only [Act.put, List.setIfInBounds_toArray, List.set_cons_zero, List.set_cons_succ]
    refine det_assign _ (.int .u32 (wi (h.getD 0 0#32))) (by rfl) rfl rfl ?_
    simp only [Act.put, List.setIfInBounds_toArray, List.set_cons_zero, List.set_cons_succ]
    refine det_assign _ (.int .u32 (wi (h.getD 1 0#32))) (by rfl) rfl rfl ?_
    simp only [Act.put, List.setIfInBounds_toArray, List.set_cons_zero, List.set_cons_succ]
    refine det_assign _ (.int .u32 (wi (h.getD 2 0#32))) (by rfl) rfl rfl ?_
    simp only [Act.put, List.setIfInBounds_toArray, List.set_cons_zero, List.set_cons_succ]
    refine det_assign _ (.int .u32 (wi (h.getD 3 0#32))) (by rfl) rfl rfl ?_
    simp only [Act.put, List.setIfInBounds_toArray, List.set_cons_zero, List.set_cons_succ]
    refine det_assign _ (.int .u32 (wi (h.getD 4 0#32))) (by rfl) rfl rfl ?_
    simp only [Act.put, List.setIfInBounds_toArray, List.set_cons_zero, List.set_cons_succ]
    refine det_assign _ (.int .u32 (wi (h.getD 5 0#32))) (by rfl) rfl rfl ?_
    simp only [Act.put, List.setIfInBounds_toArray, List.set_cons_zero, List.set_cons_succ]
    refine det_assign _ (.int .u32 (wi (h.getD 6 0#32))) (by rfl) rfl rfl ?_
    simp only [Act.put, List.setIfInBounds_toArray, List.set_cons_zero, List.set_cons_succ]
    refine det_assign _ (.int .u32 (wi (h.getD 7 0#32))) (by rfl) rfl rfl ?_
    simp only [Act.put, List.setIfInBounds_toArray, List.set_cons_zero, List.set_cons_succ]
    refine det_nil (fun w6 hw6 => ?_)
    have H1 := Lib.hid (ext_blk H1.out hw6)
    have H3 := Lib.hid (ext_blk H3.out hw6)
    have H4 := Lib.hid (ext_blk H4.out hw6)
    have HE := Lib.hid (HE.out.trans hw6)
    clear hw6
    go_wp2_with fail
    go_step3
    rename_i hK
    refine hK _ _ (HP.out _ _ ?_)
    exact ⟨0, B, by omega, H1.out, H3.out, H4.out, HE.out, fun n => ([_, _, _, _, _, _, _, _, _, _, _, _, _, _, _, _, _, _, _, _, _, _, _, _, _, _, _, _, _, _, _, _, _, _, _, _, _, _, _, _, _, _, _, _, _, _, _, _, _, _, _, _, _, _, _, _, _, _, _, _, _, _, _, _, _, _, _, _, _, _, _, _, _, _, _, _, _, _, _, _, _, _, _, _, _, _, _, _, _, _, _, _, _, _, _, _, _, _, _, _, _, _, _, _] : List Value).getD (n - 15) undef, rfl⟩
  · rintro a w7 ⟨k, B, hk, h1, h3, h4, hE, u, rfl⟩
    have H1 := Lib.hid h1
    have H3 := Lib.hid h3
    have H4 := Lib.hid h4
    have HE := Lib.hid hE
    clear h1 h3 h4 hE
    have hvl := vRun_length h (wSch cs 0 48) HH.out k
    by_cases hlt : k < 64
    · have k1 : (k : Int) < 64 := by omega
      have k0 : (0 : Int) ≤ (k : Int) := Int.natCast_nonneg _
      have HWK : Hid (∀ w', Blk w' B (ints .u32 (ws (wSch cs 0 48))) 62 → w'.cell? ⟨B, k, none⟩ = some (.int .u32 (wi ((wSch cs 0 48).getD k 0#32)))) := Lib.hid (fun w' h => blk_w h (by rw [wSch_length]; exact hlt))
      have HKK : Hid (∀ w', Ext w7 w' → w'.cell? ⟨1, k, none⟩ = some (.int .u32 (wi (K256.getD k 0#32)))) := Lib.hid (fun w' h => (HG.out.ext (HE.out.trans h)).cell hlt)
      have HRN : Hid (∀ j, (vRun h (wSch cs 0 48) (k + 1)).getD j 0#32 = (rnd (vRun h (wSch cs 0 48) k) (K256.getD k 0#32) ((wSch cs 0 48).getD k 0#32)).getD j 0#32) := Lib.hid (fun _ => rfl)
      unfold rnd at HRN
      generalize K256.getD k 0#32 = kk at *
      generalize (wSch cs 0 48).getD k 0#32 = wk at *
      generalize (vRun h (wSch cs 0 48) k).getD 0 0#32 = v0 at *
      generalize (vRun h (wSch cs 0 48) k).getD 1 0#32 = v1 at *
      generalize (vRun h (wSch cs 0 48) k).getD 2 0#32 = v2 at *
      generalize (vRun h (wSch cs 0 48) k).getD 3 0#32 = v3 at *
      generalize (vRun h (wSch cs 0 48) k).getD 4 0#32 = v4 at *
      generalize (vRun h (wSch cs 0 48) k).getD 5 0#32 = v5 at *
      generalize (vRun h (wSch cs 0 48) k).getD 6 0#32 = v6 at *
      generalize (vRun h (wSch cs 0 48) k).getD 7 0#32 = v7 at *
      go_wp2_with fail
      refine wp_region_all (by kernel_rfl) (by kernel_rfl) ?_
      refine det_move _ (.int .u32 (wi v7)) (by rfl) rfl rfl ?_
      simp only [Act.put, List.setIfInBounds_toArray, List.set_cons_zero, List.set_cons_succ]
      refine det_move _ (.int .u32 (wi v4)) (by rfl) rfl rfl ?_
      simp only [Act.put, List.setIfInBounds_toArray, List.set_cons_zero, List.set_cons_succ]
      refine det_call _ _ _ [.int .u32 (wi v4), .int .i64 6, .int .i64 11, .int .i64 25] (.int .u32 (wi (rotr v4 6 ^^^ rotr v4 11 ^^^ rotr v4 25))) (by rfl) rfl Tryd.call37 rfl (fun w hw => sum_ext v4 6 11 25 (by omega) (by omega) (by omega) (by omega) (by omega) (by omega) w) ?_
      simp only [Act.put, List.setIfInBounds_toArray, List.set_cons_zero, List.set_cons_succ]
      refine det_add _ _ _ _ _ _ _ (wi (v7 + (rotr v4 6 ^^^ rotr v4 11 ^^^ rotr v4 25))) (by rfl) rfl rfl rfl (wi_add _ _) ?_
      simp only [Act.put, List.setIfInBounds_toArray, List.set_cons_zero, List.set_cons_succ]
      refine det_move _ (.int .u32 (wi v4)) (by rfl) rfl rfl ?_
      simp only [Act.put, List.setIfInBounds_toArray, List.set_cons_zero, List.set_cons_succ]
      refine det_move _ (.int .u32 (wi v5)) (by rfl) rfl rfl ?_
      simp only [Act.put, List.setIfInBounds_toArray, List.set_cons_zero, List.set_cons_succ]
      refine det_and _ _ _ _ _ _ _ (wi (v4 &&& v5)) (by rfl) rfl rfl rfl (wi_and _ _) ?_
      simp only [Act.put, List.setIfInBounds_toArray, List.set_cons_zero, List.set_cons_succ]
      refine det_move _ (.int .u32 (wi v4)) (by rfl) rfl rfl ?_
      simp only [Act.put, List.setIfInBounds_toArray, List.set_cons_zero, List.set_cons_succ]
      refine det_winot _ _ v4 (by rfl) rfl rfl ?_
      simp only [Act.put, List.setIfInBounds_toArray, List.set_cons_zero, List.set_cons_succ]
      refine det_move _ (.int .u32 (wi v6)) (by rfl) rfl rfl ?_
      simp only [Act.put, List.setIfInBounds_toArray, List.set_cons_zero, List.set_cons_succ]
      refine det_and _ _ _ _ _ _ _ (wi ((~~~v4) &&& v6)) (by rfl) rfl rfl rfl (wi_and _ _) ?_
      simp only [Act.put, List.setIfInBounds_toArray, List.set_cons_zero, List.set_cons_succ]
      refine det_xor _ _ _ _ _ _ _ (wi ((v4 &&& v5) ^^^ ((~~~v4) &&& v6))) (by rfl) rfl rfl rfl (wi_xor _ _) ?_
      simp only [Act.put, List.setIfInBounds_toArray, List.set_cons_zero, List.set_cons_succ]
      refine det_add _ _ _ _ _ _ _ (wi ((v7 + (rotr v4 6 ^^^ rotr v4 11 ^^^ rotr v4 25)) + ((v4 &&& v5) ^^^ ((~~~v4) &&& v6)))) (by rfl) rfl rfl rfl (wi_add _ _) ?_
      simp only [Act.put, List.setIfInBounds_toArray, List.set_cons_zero, List.set_cons_succ]
      refine det_move _ (.int .i64 ((k : Nat) : Int)) (by rfl) rfl rfl ?_
      simp only [Act.put, List.setIfInBounds_toArray, List.set_cons_zero, List.set_cons_succ]
      refine det_index _ _ _ _ 1 64 k (by rfl) rfl rfl rfl Tryd.underlying62 (by omega) (Tryd.sizeOf47) ?_
      simp only [Act.put, List.setIfInBounds_toArray, List.set_cons_zero, List.set_cons_succ]
      refine det_cell _ _ 1 k (.int .u32 (wi kk)) (by rfl) rfl rfl (fun w hw => HKK.out _ hw) (Tryd.isAgg47) ?_
      simp only [Act.put, List.setIfInBounds_toArray, List.set_cons_zero, List.set_cons_succ]
      refine det_add _ _ _ _ _ _ _ (wi (((v7 + (rotr v4 6 ^^^ rotr v4 11 ^^^ rotr v4 25)) + ((v4 &&& v5) ^^^ ((~~~v4) &&& v6))) + kk)) (by rfl) rfl rfl rfl (wi_add _ _) ?_
      simp only [Act.put, List.setIfInBounds_toArray, List.set_cons_zero, List.set_cons_succ]
      refine det_move _ (.int .i64 ((k : Nat) : Int)) (by rfl) rfl rfl ?_
      simp only [Act.put, List.setIfInBounds_toArray, List.set_cons_zero, List.set_cons_succ]
      refine det_index _ _ _ _ B 64 k (by rfl) rfl rfl rfl Tryd.underlying62 (by omega) (Tryd.sizeOf47) ?_
      simp only [Act.put, List.setIfInBounds_toArray, List.set_cons_zero, List.set_cons_succ]
      refine det_cell _ _ B k (.int .u32 (wi wk)) (by rfl) rfl rfl (fun w hw => HWK.out _ (ext_blk H4.out hw)) (Tryd.isAgg47) ?_
      simp only [Act.put, List.setIfInBounds_toArray, List.set_cons_zero, List.set_cons_succ]
      refine det_add _ _ _ _ _ _ _ (wi ((((v7 + (rotr v4 6 ^^^ rotr v4 11 ^^^ rotr v4 25)) + ((v4 &&& v5) ^^^ ((~~~v4) &&& v6))) + kk) + wk)) (by rfl) rfl rfl rfl (wi_add _ _) ?_
      simp only [Act.put, List.setIfInBounds_toArray, List.set_cons_zero, List.set_cons_succ]
      refine det_assign _ (.int .u32 (wi ((((v7 + (rotr v4 6 ^^^ rotr v4 11 ^^^ rotr v4 25)) + ((v4 &&& v5) ^^^ ((~~~v4) &&& v6))) + kk) + wk))) (by rfl) rfl rfl ?_
      simp only [Act.put, List.setIfInBounds_toArray, List.set_cons_zero, List.set_cons_succ]
      refine det_nil (fun w1 hw1 => ?_)
      have H1 := Lib.hid (ext_blk H1.out hw1)
      have H3 := Lib.hid (ext_blk H3.out hw1)
      have H4 := Lib.hid (ext_blk H4.out hw1)
      have HE := Lib.hid (HE.out.trans hw1)
      clear hw1
      generalize ht : (((v7 + (rotr v4 6 ^^^ rotr v4 11 ^^^ rotr v4 25)) + ((v4 &&& v5) ^^^ ((~~~v4) &&& v6))) + kk) + wk = t at *
      have HT := Lib.hid ht
      clear ht
      go_wp2_with fail
      have q1 : bits .and .u32 (wi v0) (wi v1) = wi (v0 &&& v1) := wi_and _ _
      have q2 : bits .and .u32 (wi v0) (wi v2) = wi (v0 &&& v2) := wi_and _ _
      have q3 : bits .and .u32 (wi v1) (wi v2) = wi (v1 &&& v2) := wi_and _ _
      have q4 : bits .xor .u32 (wi (v0 &&& v1)) (wi (v0 &&& v2)) = wi (v0 &&& v1 ^^^ v0 &&& v2) := wi_xor _ _
      have q5 : bits .xor .u32 (wi (v0 &&& v1 ^^^ v0 &&& v2)) (wi (v1 &&& v2)) = wi (v0 &&& v1 ^^^ v0 &&& v2 ^^^ v1 &&& v2) := wi_xor _ _
      obtain ⟨u16, hu⟩ : ∃ x : W32, x = (rotr v0 2 ^^^ rotr v0 13 ^^^ rotr v0 22) + (v0 &&& v1 ^^^ v0 &&& v2 ^^^ v1 &&& v2) := ⟨_, rfl⟩
      have q6 : (wi (rotr v0 2 ^^^ rotr v0 13 ^^^ rotr v0 22) + wi (v0 &&& v1 ^^^ v0 &&& v2 ^^^ v1 &&& v2)) % 4294967296 = wi u16 := by rw [hu, ← wi_add, IntKind.wrap_u32]
      have q7 : (wi t + wi u16) % 4294967296 = wi (t + u16) := by rw [← wi_add, IntKind.wrap_u32]
      have q8 : (wi v3 + wi t) % 4294967296 = wi (v3 + t) := by rw [← wi_add, IntKind.wrap_u32]
      have HU := Lib.hid hu
      clear hu
      refine (sha_sum_any v0 2 13 22 (by omega) (by omega) (by omega) (by omega) (by omega) (by omega) w1).mono ?_
      rintro e w2 ⟨rfl, rfl⟩
      go_wp2_with fail
      clear q1 q2 q3 q4 q5 q6
      go_step3
      have r0 : (vRun h (wSch cs 0 48) (k + 1)).getD 0 0#32 = t + u16 := by rw [HRN.out, ← HT.out, HU.out]; rfl
      have r4 : (vRun h (wSch cs 0 48) (k + 1)).getD 4 0#32 = v3 + t := by rw [HRN.out, ← HT.out]; rfl
      have r1 : (vRun h (wSch cs 0 48) (k + 1)).getD 1 0#32 = v0 := HRN.out 1
      have r2 : (vRun h (wSch cs 0 48) (k + 1)).getD 2 0#32 = v1 := HRN.out 2
      have r3 : (vRun h (wSch cs 0 48) (k + 1)).getD 3 0#32 = v2 := HRN.out 3
      have r5 : (vRun h (wSch cs 0 48) (k + 1)).getD 5 0#32 = v4 := HRN.out 5
      have r6 : (vRun h (wSch cs 0 48) (k + 1)).getD 6 0#32 = v5 := HRN.out 6
      have r7 : (vRun h (wSch cs 0 48) (k + 1)).getD 7 0#32 = v6 := HRN.out 7
      have hk1 : ((k + 1 : Nat) : Int) = (k : Int) + 1 := by omega
      rw [q7, q8, ← r0, ← r4, ← r1, ← r2, ← r3, ← r5, ← r6, ← r7, ← hk1]
      change (0 = 0 ∧ (MixJ h cs A w _ _ ∧ _ < _))
      refine ⟨rfl, ⟨k + 1, B, by omega, H1.out, H3.out, H4.out, HE.out, fun n => ([_, _, _, _, _, _, _, _, _, _, _, _, _, _, _, _, _, _, _, _, _, _, _, _, _, _, _, _, _, _, _, _, _, _, _, _, _, _, _, _, _, _, _, _, _, _, _, _, _, _, _, _, _, _, _, _, _, _, _, _, _, _, _, _, _, _, _, _, _, _, _, _, _, _, _, _, _, _, _, _, _, _, _, _, _, _, _, _, _, _, _, _, _, _, _, _, _, _, _, _, _, _, _, _] : List Value).getD (n - 15) undef, rfl⟩, ?_⟩
      · show 64 - (intOf (.int .i64 ((k + 1 : Nat) : Int))).toNat < 64 - (intOf (.int .i64 (k : Int))).toNat
        simp [intOf]
        omega
    · have hk64 : k = 64 := by omega
      subst hk64
      have e := hAdd8 h (vRun h (wSch cs 0 48) 64) HH.out hvl
      have HM : Hid (mixF h cs = _) := Lib.hid e
      have hc : ∀ j, j < 8 → w7.cell? ⟨A, j, none⟩ = some (.int .u32 (wi (h.getD j 0#32))) := fun j hj => blk_w H1.out (by rw [HH.out]; exact hj)
      have c0 := hc 0 (by omega)
      have c1 := hc 1 (by omega)
      have c2 := hc 2 (by omega)
      have c3 := hc 3 (by omega)
      have c4 := hc 4 (by omega)
      have c5 := hc 5 (by omega)
      have c6 := hc 6 (by omega)
      have c7 := hc 7 (by omega)
      generalize (vRun h (wSch cs 0 48) 64).getD 0 0#32 = v0 at *
      generalize h.getD 0 0#32 = y0 at *
      have s0 : (wi y0 + wi v0) % 4294967296 = wi (y0 + v0) := by rw [← wi_add, IntKind.wrap_u32]
      generalize (vRun h (wSch cs 0 48) 64).getD 1 0#32 = v1 at *
      generalize h.getD 1 0#32 = y1 at *
      have s1 : (wi y1 + wi v1) % 4294967296 = wi (y1 + v1) := by rw [← wi_add, IntKind.wrap_u32]
      generalize (vRun h (wSch cs 0 48) 64).getD 2 0#32 = v2 at *
      generalize h.getD 2 0#32 = y2 at *
      have s2 : (wi y2 + wi v2) % 4294967296 = wi (y2 + v2) := by rw [← wi_add, IntKind.wrap_u32]
      generalize (vRun h (wSch cs 0 48) 64).getD 3 0#32 = v3 at *
      generalize h.getD 3 0#32 = y3 at *
      have s3 : (wi y3 + wi v3) % 4294967296 = wi (y3 + v3) := by rw [← wi_add, IntKind.wrap_u32]
      generalize (vRun h (wSch cs 0 48) 64).getD 4 0#32 = v4 at *
      generalize h.getD 4 0#32 = y4 at *
      have s4 : (wi y4 + wi v4) % 4294967296 = wi (y4 + v4) := by rw [← wi_add, IntKind.wrap_u32]
      generalize (vRun h (wSch cs 0 48) 64).getD 5 0#32 = v5 at *
      generalize h.getD 5 0#32 = y5 at *
      have s5 : (wi y5 + wi v5) % 4294967296 = wi (y5 + v5) := by rw [← wi_add, IntKind.wrap_u32]
      generalize (vRun h (wSch cs 0 48) 64).getD 6 0#32 = v6 at *
      generalize h.getD 6 0#32 = y6 at *
      have s6 : (wi y6 + wi v6) % 4294967296 = wi (y6 + v6) := by rw [← wi_add, IntKind.wrap_u32]
      generalize (vRun h (wSch cs 0 48) 64).getD 7 0#32 = v7 at *
      generalize h.getD 7 0#32 = y7 at *
      have s7 : (wi y7 + wi v7) % 4294967296 = wi (y7 + v7) := by rw [← wi_add, IntKind.wrap_u32]
      clear hc e
      have HIm : Hid ((Tryd.prog.info? 49).map (·.size) = some (ints .u32 (ws [y0 + v0, y1 + v1, y2 + v2, y3 + v3, y4 + v4, y5 + v5, y6 + v6, y7 + v7])).length) := Lib.hid Tryd.arr49
      go_wp2_with (refine wpList_store_blk rfl _ _ _ rfl (A + 1 + 1) (ints .u32 (ws [y0 + v0, y1 + v1, y2 + v2, y3 + v3, y4 + v4, y5 + v5, y6 + v6, y7 + v7])) rfl rfl _ _ H3.out (by simp [ints_length, ws_length]) HIm.out (ints_one _ _) ?_; intro w8 hb8 hg8)
      simp only [Exit.jump]
      refine bodyPost_ret (result_blk rfl _ (A + 1 + 1) _ _ _ _ rfl hb8 Tryd.underlying49 HIm.out) rfl ?_
      exact ⟨by rw [HM.out], ext_grown HE.out hg8 (by omega)⟩

end Go.Proofs.YtcadfccijeodbaaDoor

/- The loops of a hash tree's path, and of its check, as functions on lists, and that they are the path and what it leads to. No program. Each theorem names its own conditions. -/
namespace Go.Proofs.YtcadfccijeodbaaDoor
open Go.RowKit
set_option linter.unusedVariables false

/-- The tree beside the a-th one of a row of trees. -/
def sib (a : Nat) : Nat := if a % 2 = 0 then a + 1 else a - 1
theorem xor_one (a : Nat) : a ^^^ 1 = sib a := by
  have h1 : (a ^^^ 1) / 2 = a / 2 ^^^ 1 / 2 := Nat.xor_div_two
  have h2 : (a ^^^ 1) % 2 = (a + 1) % 2 := by
    have h := Nat.xor_mod_two_pow (a := a) (b := 1) (n := 1)
    rw [Nat.pow_one] at h
    rw [h]
    obtain e | e : a % 2 = 0 ∨ a % 2 = 1 := by omega
    · rw [e, Nat.add_mod, e]
      rfl
    · rw [e, Nat.add_mod, e]
      rfl
  rw [show 1 / 2 = 0 from rfl, Nat.xor_zero] at h1
  unfold sib
  split <;> omega
theorem sib_xor (a j : Nat) : (a * 2 ^ j) ^^^ (2 ^ j) = sib a * 2 ^ j := by
  have h := Nat.shiftLeft_xor_distrib (a := a) (b := 1) (i := j)
  rw [Nat.shiftLeft_eq, Nat.shiftLeft_eq, Nat.shiftLeft_eq, Nat.one_mul, xor_one] at h
  exact h.symm
/-- Where the tree beside begins. -/
def besF (i j : Nat) : Nat := sib (i / 2 ^ j) * 2 ^ j
theorem pow_split {j m : Nat} (h : j < m) : ∃ d, 2 ^ m = (2 * d) * 2 ^ j ∧ 0 < d := by
  refine ⟨2 ^ (m - j - 1), ?_, Nat.pow_pos (by omega)⟩
  rw [Nat.mul_comm 2, ← Nat.pow_succ, ← Nat.pow_add]
  congr 1
  omega
theorem sib_lt {a d : Nat} (h : a < 2 * d) : sib a < 2 * d := by
  unfold sib
  split <;> omega
theorem sib_add (a d : Nat) : sib (2 * d + a) = 2 * d + sib a := by
  unfold sib
  split <;> split <;> omega
theorem besF_low {i j m : Nat} (hj : j < m) (hi : i < 2 ^ m) : besF i j + 2 ^ j ≤ 2 ^ m := by
  obtain ⟨d, hd, _⟩ := pow_split hj
  have hp : 0 < 2 ^ j := Nat.pow_pos (by omega)
  have h1 : i / 2 ^ j < 2 * d := (Nat.div_lt_iff_lt_mul hp).2 (by omega)
  have h2 := sib_lt h1
  unfold besF
  rw [hd, ← Nat.succ_mul]
  exact Nat.mul_le_mul_right _ h2
theorem besF_high {i j m : Nat} (hj : j < m) (hi : 2 ^ m ≤ i) : besF i j = 2 ^ m + besF (i - 2 ^ m) j := by
  obtain ⟨d, hd, _⟩ := pow_split hj
  have hp : 0 < 2 ^ j := Nat.pow_pos (by omega)
  obtain ⟨k, rfl⟩ : ∃ k, i = k + 2 * d * 2 ^ j := ⟨i - 2 ^ m, by omega⟩
  unfold besF
  rw [hd, Nat.add_sub_cancel, Nat.add_mul_div_right _ _ hp, Nat.add_comm (k / 2 ^ j), sib_add, Nat.add_mul]
theorem besF_top_low {i m : Nat} (hi : i < 2 ^ m) : besF i m = 2 ^ m := by
  unfold besF
  rw [Nat.div_eq_of_lt hi]
  show 1 * 2 ^ m = 2 ^ m
  omega
theorem besF_top_high {i m : Nat} (h1 : 2 ^ m ≤ i) (h2 : i < 2 * 2 ^ m) : besF i m = 0 := by
  have hp : 0 < 2 ^ m := Nat.pow_pos (by omega)
  have h : i / 2 ^ m = 1 := by
    have h3 : i / 2 ^ m < 2 := (Nat.div_lt_iff_lt_mul hp).2 h2
    have h4 : 1 ≤ i / 2 ^ m := (Nat.le_div_iff_mul_le hp).2 (by omega)
    omega
  unfold besF
  rw [h]
  show 0 * 2 ^ m = 0
  omega
/-- As the program has it: the place's tree begins at a multiple of its places. -/
theorem besF_xor (i j : Nat) : (i / 2 ^ j * 2 ^ j) ^^^ (2 ^ j) = besF i j := sib_xor _ _

/-- The path's part of one size of trees. -/
def merB (l : List (List UInt8)) (i j : Nat) : List (List UInt8) := if besF i j < l.length then [merR ((l.drop (besF i j)).take (2 ^ j))] else []
/-- The path's parts of the first sizes. -/
def merL (l : List (List UInt8)) (i : Nat) : Nat → List (List UInt8)
  | 0 => []
  | j + 1 => merL l i j ++ merB l i j
theorem merL_low {l : List (List UInt8)} {i m : Nat} (hi : i < 2 ^ m) (hl : 2 ^ m ≤ l.length) : ∀ j, j ≤ m → merL l i j = merL (l.take (2 ^ m)) i j
  | 0, _ => rfl
  | j + 1, h => by
    rw [merL, merL, merL_low hi hl j (by omega)]
    have hb := besF_low (i := i) (j := j) (m := m) (by omega) hi
    have hp : 0 < 2 ^ j := Nat.pow_pos (by omega)
    unfold merB
    rw [if_pos (by omega), if_pos (by rw [List.length_take]; omega), List.drop_take, List.take_take, Nat.min_eq_left (by omega)]
theorem merL_high {l : List (List UInt8)} {i m : Nat} (hi : 2 ^ m ≤ i) (hl : 2 ^ m ≤ l.length) : ∀ j, j ≤ m → merL l i j = merL (l.drop (2 ^ m)) (i - 2 ^ m) j
  | 0, _ => rfl
  | j + 1, h => by
    rw [merL, merL, merL_high hi hl j (by omega)]
    have hb := besF_high (i := i) (j := j) (m := m) (by omega) hi
    unfold merB
    rw [hb, List.length_drop, List.drop_drop]
    by_cases c : 2 ^ m + besF (i - 2 ^ m) j < l.length
    · rw [if_pos c, if_pos (by omega)]
    · rw [if_neg c, if_neg (by omega)]
/-- All of them are the path. -/
theorem merL_path : ∀ (m : Nat) (l : List (List UInt8)) (i : Nat), l.length ≤ 2 ^ m → i < l.length → merL l i m = merP l i
  | 0, l, i, h, hi => by
    rw [merP_few i (by simp at h; omega)]
    rfl
  | m + 1, l, i, h, hi => by
    rw [Nat.pow_succ] at h
    have hp : 0 < 2 ^ m := Nat.pow_pos (by omega)
    rw [merL]
    unfold merB
    by_cases c : l.length ≤ 2 ^ m
    · rw [merL_path m l i c hi, besF_top_low (by omega), if_neg (by omega), List.append_nil]
    · have h2 : 2 ≤ l.length := by omega
      have hk : merK l.length = 2 ^ m := merK_of h2 (by omega) (by omega)
      by_cases e : i < 2 ^ m
      · rw [merP_low h2 (by omega), hk, merL_low e (by omega) m (Nat.le_refl _), merL_path m (l.take (2 ^ m)) i (by rw [List.length_take]; omega) (by rw [List.length_take]; omega),
          besF_top_low e, if_pos (by omega), List.take_of_length_le (l := l.drop (2 ^ m)) (i := 2 ^ m) (by rw [List.length_drop]; omega)]
      · rw [merP_high h2 (by omega), hk, merL_high (by omega) (by omega) m (Nat.le_refl _), merL_path m (l.drop (2 ^ m)) (i - 2 ^ m) (by rw [List.length_drop]; omega) (by rw [List.length_drop]; omega),
          besF_top_high (by omega) (by omega), if_pos (by omega), List.drop_zero]
theorem merL_length (l : List (List UInt8)) (i : Nat) : ∀ j, (merL l i j).length ≤ j
  | 0 => Nat.le_refl _
  | j + 1 => by
    rw [merL, List.length_append]
    have := merL_length l i j
    unfold merB
    split
    · rw [List.length_singleton]; omega
    · rw [List.length_nil]; omega

/-- One size of trees, of the check. -/
def merS (n i j : Nat) (s : List UInt8 × List (List UInt8)) : Option (List UInt8 × List (List UInt8)) :=
  if besF i j < n then (if s.2.length = 0 then none else some (sha256 (1 :: (if i < besF i j then s.1 ++ s.2.headD [] else s.2.headD [] ++ s.1)), s.2.drop 1)) else some s
/-- The first sizes of trees, of the check. -/
def merV (n i : Nat) (b : List UInt8) (p : List (List UInt8)) : Nat → Option (List UInt8 × List (List UInt8))
  | 0 => some (sha256 (0 :: b), p)
  | j + 1 => (merV n i b p j).bind (merS n i j)
theorem merV_low {n i m : Nat} (b : List UInt8) (p : List (List UInt8)) (hi : i < 2 ^ m) (hn : 2 ^ m ≤ n) : ∀ j, j ≤ m → merV n i b p j = merV (2 ^ m) i b p j
  | 0, _ => rfl
  | j + 1, h => by
    rw [merV, merV, merV_low b p hi hn j (by omega)]
    have hb := besF_low (i := i) (j := j) (m := m) (by omega) hi
    have hp : 0 < 2 ^ j := Nat.pow_pos (by omega)
    congr 1
    funext s
    have e1 : besF i j < n := by omega
    have e2 : besF i j < 2 ^ m := by omega
    unfold merS
    rw [if_pos e1, if_pos e2]
theorem merV_high {n i m : Nat} (b : List UInt8) (p : List (List UInt8)) (hi : 2 ^ m ≤ i) (hn : 2 ^ m ≤ n) : ∀ j, j ≤ m → merV n i b p j = merV (n - 2 ^ m) (i - 2 ^ m) b p j
  | 0, _ => rfl
  | j + 1, h => by
    rw [merV, merV, merV_high b p hi hn j (by omega)]
    have hb := besF_high (i := i) (j := j) (m := m) (by omega) hi
    congr 1
    funext s
    unfold merS
    rw [hb]
    have e1 : (2 ^ m + besF (i - 2 ^ m) j < n) = (besF (i - 2 ^ m) j < n - 2 ^ m) := propext (by omega)
    have e2 : (i < 2 ^ m + besF (i - 2 ^ m) j) = (i - 2 ^ m < besF (i - 2 ^ m) j) := propext (by omega)
    simp only [e1, e2]
theorem take_more {α : Type} [Inhabited α] (d : α) {p : List α} {c : Nat} (h : c < p.length) : (p.take (c + 1)).dropLast = p.take c ∧ (p.take (c + 1)).getLastD d = (p.drop c).headD d := by
  have e : p.take (c + 1) = p.take c ++ [p[c]] := by rw [List.take_add_one, List.getElem?_eq_getElem h]; rfl
  refine ⟨by rw [e, List.dropLast_concat], ?_⟩
  rw [e, List.getLastD_concat, List.drop_eq_getElem_cons h]
  rfl
/-- What the check's loop leads to. -/
theorem merV_said : ∀ (m n i : Nat) (b : List UInt8), n ≤ 2 ^ m → i < n → ∃ c, (∀ q : List (List UInt8), q.length ≠ c → merU n i b q = none) ∧ (∀ p : List (List UInt8), p.length < c → merV n i b p m = none) ∧
    (∀ p : List (List UInt8), c ≤ p.length → ∃ h, merU n i b (p.take c) = some h ∧ merV n i b p m = some (h, p.drop c))
  | 0, n, i, b, h, hi => by
    obtain rfl : n = 1 := by simp at h; omega
    refine ⟨0, fun q hq => ?_, fun p hp => by omega, fun p _ => ⟨sha256 (0 :: b), ?_, rfl⟩⟩
    · rw [merU_one, if_neg hq]
    · rw [merU_one, if_pos (by simp)]
  | m + 1, n, i, b, h, hi => by
    rw [Nat.pow_succ] at h
    have hp : 0 < 2 ^ m := Nat.pow_pos (by omega)
    by_cases cn : n ≤ 2 ^ m
    · obtain ⟨c, h1, h2, h3⟩ := merV_said m n i b cn hi
      have hS : ∀ p, merV n i b p (m + 1) = merV n i b p m := fun p => by
        rw [merV]
        cases merV n i b p m with
        | none => rfl
        | some s =>
          show merS n i m s = some s
          unfold merS
          rw [besF_top_low (by omega), if_neg (by omega)]
      exact ⟨c, h1, fun p hq => by rw [hS]; exact h2 p hq, fun p hq => by rw [hS]; exact h3 p hq⟩
    · have hn2 : 2 ≤ n := by omega
      have hk : merK n = 2 ^ m := merK_of hn2 (by omega) (by omega)
      by_cases e : i < 2 ^ m
      · obtain ⟨c, h1, h2, h3⟩ := merV_said m (2 ^ m) i b (Nat.le_refl _) e
        have hV : ∀ p, merV n i b p (m + 1) = (merV (2 ^ m) i b p m).bind (merS n i m) := fun p => by rw [merV, merV_low b p e (by omega) m (Nat.le_refl _)]
        refine ⟨c + 1, fun q hq => ?_, fun p hq => ?_, fun p hq => ?_⟩
        · by_cases z : q.length = 0
          · exact merU_none i b hn2 z
          · rw [merU_low b hn2 z (by omega), hk, h1 q.dropLast (by rw [List.length_dropLast]; omega)]
            rfl
        · rw [hV]
          by_cases z : p.length < c
          · rw [h2 p z]
            rfl
          · obtain ⟨r, _, h5⟩ := h3 p (by omega)
            rw [h5]
            show merS n i m _ = none
            unfold merS
            rw [besF_top_low e, if_pos (by omega), if_pos (by simp only [List.length_drop]; omega)]
        · obtain ⟨r, h4, h5⟩ := h3 p (by omega)
          obtain ⟨t1, t2⟩ := take_more ([] : List UInt8) (p := p) (c := c) (by omega)
          refine ⟨sha256 (1 :: (r ++ (p.drop c).headD [])), ?_, ?_⟩
          · rw [merU_low b hn2 (by rw [List.length_take]; omega) (by omega), hk, t1, t2, h4]
            rfl
          · rw [hV, h5]
            show merS n i m _ = _
            unfold merS
            rw [besF_top_low e, if_pos (by omega), if_neg (by simp only [List.length_drop]; omega), if_pos e, List.drop_drop]
      · obtain ⟨c, h1, h2, h3⟩ := merV_said m (n - 2 ^ m) (i - 2 ^ m) b (by omega) (by omega)
        have hV : ∀ p, merV n i b p (m + 1) = (merV (n - 2 ^ m) (i - 2 ^ m) b p m).bind (merS n i m) := fun p => by rw [merV, merV_high b p (by omega) (by omega) m (Nat.le_refl _)]
        have ht := besF_top_high (i := i) (m := m) (by omega) (by omega)
        refine ⟨c + 1, fun q hq => ?_, fun p hq => ?_, fun p hq => ?_⟩
        · by_cases z : q.length = 0
          · exact merU_none i b hn2 z
          · rw [merU_high b hn2 z (by omega), hk, h1 q.dropLast (by rw [List.length_dropLast]; omega)]
            rfl
        · rw [hV]
          by_cases z : p.length < c
          · rw [h2 p z]
            rfl
          · obtain ⟨r, _, h5⟩ := h3 p (by omega)
            rw [h5]
            show merS n i m _ = none
            unfold merS
            rw [ht, if_pos (by omega), if_pos (by simp only [List.length_drop]; omega)]
        · obtain ⟨r, h4, h5⟩ := h3 p (by omega)
          obtain ⟨t1, t2⟩ := take_more ([] : List UInt8) (p := p) (c := c) (by omega)
          refine ⟨sha256 (1 :: ((p.drop c).headD [] ++ r)), ?_, ?_⟩
          · rw [merU_high b hn2 (by rw [List.length_take]; omega) (by omega), hk, t1, t2, h4]
            rfl
          · rw [hV, h5]
            show merS n i m _ = _
            unfold merS
            rw [ht, if_pos (by omega), if_neg (by simp only [List.length_drop]; omega), if_neg (by omega), List.drop_drop]
/-- The check's answer, of what its loop leads to. -/
def merE (root : List UInt8) : Option (List UInt8 × List (List UInt8)) → Bool
  | none => false
  | some s => decide (s.2.length = 0) && decide (s.1 = root)
theorem merE_said (root : List UInt8) {m n i : Nat} (b : List UInt8) (p : List (List UInt8)) (h : n ≤ 2 ^ m) (hi : i < n) : merE root (merV n i b p m) = decide (merU n i b p = some root) := by
  obtain ⟨c, h1, h2, h3⟩ := merV_said m n i b h hi
  by_cases z : p.length < c
  · rw [h2 p z, h1 p (by omega)]
    rfl
  · obtain ⟨r, h4, h5⟩ := h3 p (by omega)
    rw [h5]
    show (decide ((p.drop c).length = 0) && decide (r = root)) = _
    by_cases y : p.length = c
    · rw [List.take_of_length_le (by omega)] at h4
      rw [h4, decide_eq_true (by rw [List.length_drop]; omega), Bool.true_and]
      exact decide_eq_decide.2 ⟨congrArg some, Option.some.inj⟩
    · rw [h1 p y, decide_eq_false (by rw [List.length_drop]; omega)]
      rfl

end Go.Proofs.YtcadfccijeodbaaDoor

/- The walks of the program's own cut and beside, over bits.Len. Each theorem names its own conditions. -/
namespace Go.Proofs.YtcadfccijeodbaaDoor
open Go.RowKit
set_option linter.unusedVariables false
set_option linter.unusedSimpArgs false

theorem bit_log (x : Nat) (h : x < 2 ^ 64) (h0 : x ≠ 0) : Lib.bitLen x = Nat.log2 x + 1 := by
  induction x using Nat.strongRecOn with
  | _ x ih =>
    rw [Lib.bitLen_half x h0 h, Nat.log2_def x]
    by_cases h2 : 2 ≤ x
    · rw [ih (x / 2) (by omega) (by omega) (by omega), if_pos h2]
      omega
    · obtain rfl : x = 1 := by omega
      simp [Lib.bitLen, Lib.bitLenAux]

set_option maxHeartbeats 4000000 in
set_option maxRecDepth 100000 in
theorem mer_len64 (x : Int) (w : World) (h0 : 0 ≤ x) (h1 : x < 16777216) :
    Calls Tryd.prog 40 #[.int .u64 x] w fun e w' => e = .returned (.int .i64 (Lib.bitLen x.toNat)) ∧ w = w' := by
  have h2 : ¬ 4294967296 ≤ x := by omega
  by_cases c : x < 256
  · have a1 : ¬ 65536 ≤ x := by omega
    have a2 : ¬ 256 ≤ x := by omega
    have a3 : x ≤ 255 := by omega
    clear h1 c
    go_enter Tryd.func40, Tryd.ntmps40
    go_wp2_with fail
    go_ret
    refine ⟨congrArg Ending.returned (congrArg (Value.int IntKind.i64) ?_), rfl⟩
    rw [Lib.len8_of x h0 a3]
    have l := Lib.bitLen_le8' x h0 a3
    unfold wrap64
    omega
  · by_cases d : x < 65536
    · have a1 : ¬ 65536 ≤ x := by omega
      have a2 : 256 ≤ x := by omega
      have a3 : x / 256 ≤ 255 := by omega
      have a4 : 0 ≤ x / 256 := by omega
      have s := Lib.hid (Lib.bitLen_shift8 x.toNat (by omega) (by omega))
      clear h1 c d
      go_enter Tryd.func40, Tryd.ntmps40
      go_wp2_with fail
      go_ret
      refine ⟨congrArg Ending.returned (congrArg (Value.int IntKind.i64) ?_), rfl⟩
      rw [Lib.len8_of (x / 256) a4 a3]
      have l := Lib.bitLen_le8' (x / 256) a4 a3
      have e : (x / 256).toNat = x.toNat / 256 := by omega
      have s := s.out
      rw [e] at l ⊢
      unfold wrap64
      omega
    · have a1 : 65536 ≤ x := by omega
      have a2 : ¬ 256 ≤ x / 65536 := by omega
      have a3 : x / 65536 ≤ 255 := by omega
      have a4 : 0 ≤ x / 65536 := by omega
      have s := Lib.hid (Lib.bitLen_shift16 x.toNat (by omega) (by omega))
      clear h1 c d
      go_enter Tryd.func40, Tryd.ntmps40
      go_wp2_with fail
      go_ret
      refine ⟨congrArg Ending.returned (congrArg (Value.int IntKind.i64) ?_), rfl⟩
      rw [Lib.len8_of (x / 65536) a4 a3]
      have l := Lib.bitLen_le8' (x / 65536) a4 a3
      have e : (x / 65536).toNat = x.toNat / 65536 := by omega
      have s := s.out
      rw [e] at l ⊢
      unfold wrap64
      omega
theorem mer_len (x : Int) (w : World) (h0 : 0 ≤ x) (h1 : x < 16777216) :
    Calls Tryd.prog 32 #[.int .u64 x] w fun e w' => e = .returned (.int .i64 (Lib.bitLen x.toNat)) ∧ w = w' := by
  go_enter Tryd.func32, Tryd.ntmps32
  go_wp2_with (go_at_call 40; refine (mer_len64 x _ h0 h1).mono ?_; rintro e w' ⟨rfl, rfl⟩)
  go_ret
  exact ⟨rfl, rfl⟩
theorem w64n (n : Nat) (h : n < 9223372036854775808) : wrap64 (n : Int) = (n : Int) := by
  rw [← IntWalk.i64_left]
  exact IntWalk.i64_in _ (by omega)
set_option maxHeartbeats 400000 in
theorem mcut_any (n : Nat) (w : World) (h2 : 2 ≤ n) (hn : n ≤ 1048576) :
    Calls Tryd.prog 20 #[.int .i64 (n : Int)] w fun e w' => e = .returned (.int .i64 ((merK n : Nat) : Int)) ∧ w = w' := by
  have HC := Lib.hid (fun w => mer_len ((n - 1 : Nat) : Int) w (by omega) (by omega))
  obtain ⟨k, hk⟩ : ∃ k, k = Nat.log2 (n - 1) := ⟨_, rfl⟩
  have HL : Hid (Lib.bitLen ((n - 1 : Nat) : Int).toNat = k + 1) := Lib.hid (by rw [Int.toNat_natCast, bit_log _ (by omega) (by omega), hk])
  have HK : Hid (merK n = 2 ^ k) := Lib.hid (by unfold merK; rw [hk])
  have k20 : k < 21 := by
    have h := merK_lt h2
    rw [HK.out] at h
    exact (Nat.pow_lt_pow_iff_right (by decide : 1 < 2)).1 (by omega : 2 ^ k < 2 ^ 21)
  have HP : Hid (2 ^ k < 2097152) := Lib.hid (by
    have h := merK_lt h2
    rw [HK.out] at h
    omega)
  rw [HL.out] at HC
  have e1 : (n : Int) - 1 = ((n - 1 : Nat) : Int) := by omega
  clear hk
  go_enter Tryd.func20, Tryd.ntmps20
  go_wp2_with (go_at_call 32; refine (HC.out _).mono ?_; rintro e w' ⟨rfl, rfl⟩)
  go_ret
  refine ⟨congrArg Ending.returned (congrArg (Value.int IntKind.i64) ?_), rfl⟩
  have := HP.out
  have e : (2 : Int) ^ k = ((2 ^ k : Nat) : Int) := (Int.natCast_pow 2 k).symm
  rw [HK.out, e]
  exact w64n _ (by omega)

theorem xor_i64M (a b : Nat) (ha : a < 9223372036854775808) (hb : b < 9223372036854775808) : bits .xor .i64 (a : Int) (b : Int) = ((a ^^^ b : Nat) : Int) := by
  have e1 : (BitVec.ofInt 64 (a : Int)).toNat = a := by rw [BitVec.toNat_ofInt]; omega
  have e2 : (BitVec.ofInt 64 (b : Int)).toNat = b := by rw [BitVec.toNat_ofInt]; omega
  show IntKind.i64.wrap ((BitVec.ofInt 64 (a : Int) ^^^ BitVec.ofInt 64 (b : Int)).toNat : Nat) = _
  have e3 : a ^^^ b < 2 ^ 63 := Nat.xor_lt_two_pow ha hb
  rw [BitVec.toNat_xor, e1, e2, IntKind.wrap_i64]
  omega
theorem bes_num {i s f n : Nat} (hi : i < n) (hs : s < n) (hn : n ≤ 1048576) (hx : (i / s * s) ^^^ s = f) : bits .xor .i64 (wrap64 (wrap64 ((i : Int) / (s : Int)) * (s : Int))) (s : Int) = (f : Int) := by
  have h1 : i / s ≤ i := Nat.div_le_self _ _
  have h2 : i / s * s ≤ i := Nat.div_mul_le_self _ _
  rw [← Int.natCast_ediv, w64n _ (by omega), ← Int.natCast_mul, w64n _ (by omega), xor_i64M _ _ (by omega) (by omega), hx]
theorem bes_lt {i s f n : Nat} (hi : i < n) (hs : s < n) (hn : n ≤ 1048576) (hx : (i / s * s) ^^^ s = f) : f < 2097152 := by
  have h2 : i / s * s ≤ i := Nat.div_mul_le_self _ _
  rw [← hx]
  exact Nat.xor_lt_two_pow (n := 21) (by omega) (by omega)
theorem res_twoM {fn : Func} {i j : Nat} (hf : fn.results = #[.tmp i, .tmp j]) (tmps : Array Value) (w : World) :
    (results fn tmps).run Tryd.prog w = .ok (.tuple #[tmps.getD i undef, tmps.getD j undef]) w := by
  unfold results
  rw [hf]
  simp
/-- What stands beside: from and to. -/
theorem mbeside_any (n i j : Nat) (w : World) (hi : i < n) (hj : 2 ^ j < n) (hn : n ≤ 1048576) :
    Calls Tryd.prog 24 #[.int .i64 (n : Int), .int .i64 (i : Int), .int .i64 ((2 ^ j : Nat) : Int)] w fun e w' => e = .returned (.tuple #[.int .i64 ((besF i j : Nat) : Int), .int .i64 ((min (besF i j + 2 ^ j) n : Nat) : Int)]) ∧ w = w' := by
  have HX := Lib.hid (besF_xor i j)
  have HP : Hid (0 < 2 ^ j) := Lib.hid (Nat.pow_pos (by omega))
  generalize besF i j = f at *
  generalize 2 ^ j = s at *
  have n0 : (0 : Int) ≤ (n : Int) := Int.natCast_nonneg _
  have i0 : (0 : Int) ≤ (i : Int) := Int.natCast_nonneg _
  have s1 : (1 : Int) ≤ (s : Int) := by have := HP.out; omega
  go_enter Tryd.func24, Tryd.ntmps24
  go_wp2_with fail
  refine bodyPost_ret (res_twoM rfl _ _) rfl ⟨congrArg Ending.returned ?_, rfl⟩
  have e1 := bes_num hi hj hn HX.out
  have e2 := bes_lt hi hj hn HX.out
  have e3 : wrap64 ((f : Int) + (s : Int)) = ((f + s : Nat) : Int) := by
    rw [← Int.natCast_add]
    exact w64n _ (by omega)
  have e4 : ((min (f + s) n : Nat) : Int) = min ((f + s : Nat) : Int) (n : Int) := by omega
  rw [e1, e3, e4]
  rfl
end Go.Proofs.YtcadfccijeodbaaDoor

/- Slices of numbers: cut from the front; built and appended in a region that keeps the text's order; a row of rows cut on both sides. Nothing here speaks of a program. Each theorem names its own conditions. -/
namespace Go.Proofs.YtcadfccijeodbaaDoor
open Go.RowKit
set_option linter.unusedVariables false

theorem flat_drop : ∀ {ps : List (List UInt8)}, Nums ps → ∀ (n : Nat), (ps.drop n).flatten = ps.flatten.drop (32 * n)
  | [], _, n => by simp
  | p :: ps, h, 0 => by simp
  | p :: ps, h, n + 1 => by
    have hp := h p (List.mem_cons_self ..)
    rw [List.drop_succ_cons, List.flatten_cons, flat_drop (fun q hq => h q (List.mem_cons_of_mem _ hq)) n, List.drop_append, hp,
      show 32 * (n + 1) - 32 = 32 * n by omega, show p.drop (32 * (n + 1)) = [] from List.drop_eq_nil_of_le (by omega), List.nil_append]
theorem Nums.drop {a : List (List UInt8)} (ha : Nums a) (n : Nat) : Nums (a.drop n) := fun p h => ha p (List.mem_of_mem_drop h)

section
variable {P : Program} {ops : Array Oper} {w : World} {Q : Exit → Act → World → Prop}
/-- s[k:]. -/
theorem RowN.cut {v : Value} {ps : List (List UInt8)} {t e : TypeId} (ht : P.underlying t = some (.slice e)) (hs : ∀ w, (sizeOf e).run P w = .ok 32 w) (h : RowN w v ps) (k : Nat) (hk : k ≤ ps.length) :
    ∃ v', RowN w v' (ps.drop k) ∧ ∀ w', (Instr.sliceAt t v (some (.int .i64 (k : Int))) none none).run P w' = .ok v' w' := by
  obtain ⟨h0, a, cap, rfl, h1, h2, h3, h4⟩ := h
  have e2 : P.elem t = e := by unfold Program.elem; rw [ht]
  have ht2 : P.underlying t = some (.slice (P.elem t)) := by rw [e2]; exact ht
  have hl : (ps.drop k).length = ps.length - k := by simp
  have hr : ∀ w', (Instr.sliceAt t (.slice a ps.length cap) (some (.int .i64 (k : Int))) none none).run P w' = .ok (sliced a k ps.length cap 32) w' := fun w' => by
    rw [run_sliceAt_slice w' t _ _ _ _ ht2, run_slice_l (ht := ht2) (kl := .i64) (l := (k : Int)) (h0 := by omega) (h1 := by omega), e2, hs]
    simp
  refine ⟨_, ?_, hr⟩
  unfold sliced
  by_cases hc : cap = k
  · rw [if_pos hc]
    have hv : ps.drop k = [] := List.drop_eq_nil_of_le (by omega)
    refine ⟨h0.drop k, a, cap - k, by rw [hl], by rw [hl]; omega, by omega, fun e => by have := h3 e; omega, fun h => absurd hv h⟩
  · rw [if_neg hc]
    refine ⟨h0.drop k, a.map (·.add (k * 32)), cap - k, by rw [hl], by rw [hl]; omega, by omega, fun e => ?_, fun hne => ?_⟩
    · cases a with
      | none => have := h3 rfl; omega
      | some a => cases e
    · have hne2 : ps ≠ [] := by rintro rfl; simp at hne
      obtain ⟨b, off, rfl, g1, g2⟩ := h4 hne2
      refine ⟨b, off + k * 32, by rw [Option.map_some, WideShapes.add_plain], g1, fun i hi => ?_⟩
      rw [hl] at hi
      rw [Nat.add_assoc, g2 (k * 32 + i) (by omega), List.getElem?_map, List.getElem?_map, flat_drop h0, List.getElem?_drop, Nat.mul_comm k 32]
/-- []api.Num of one number, where the text's order is kept. -/
theorem wpList_build_num {rest : List Oper} {o : Oper} {a : Act} (hgd : o.guard = none) (d : Option Nat) (t q : TypeId) (x : Operand) (p : List UInt8) (hd : o.dst = d) (ho : o.op = .buildSlice t 1 #[(0, x)]) (hu : P.underlying t = some (.slice q))
    {iq : TypeInfo} {z : Value} (hi : P.info? q = some iq) (hz : iq.zero = some z) (hs : iq.size = 32) (hzs : z.cells.size = 32) (hx : a.eval x = .agg (p.map bval).toArray) (hp : p.length = 32)
    (h : wpList P ops Q rest (a.put d (.slice (some ⟨w.heap.size, 0, none⟩) 1 1)) (w.alloc (.cells (p.map bval).toArray q))) : wpList P ops Q (o :: rest) a w :=
  wpList_plain hgd fun _ hK => wp_build_num d t q x p hd ho hu hi hz hs hzs hx hp (hK _ _ h)
/-- append(row, number ..), where the text's order is kept. -/
theorem wpList_append_num {rest : List Oper} {o : Oper} {a : Act} (hgd : o.guard = none) (d : Option Nat) (s y : Operand) (t : TypeId) (hd : o.dst = d) (ho : o.op = .call { callee := .builtin .append, args := #[s, y], argTypes := #[t, t] })
    (base : Nat) (q : TypeId) (hu : P.underlying t = some (.slice q)) {iq : TypeInfo} {z : Value} (hi : P.info? q = some iq) (hz : iq.zero = some z) (hsz : iq.size = 32) (hby : iq.bytes = 32) (hzs : z.cells.size = 32)
    (x : Value) (n : Nat) (xs : List Value) (hs : a.eval s = x) (hown : w.ownsRow base q 32 x n xs)
    (g c : Nat) (p : List UInt8) (hx : a.eval y = .slice (some ⟨g, 0, none⟩) 1 c) (hb : w.rangeAt g 0 (p.map bval)) (hp : p.length = 32) (hn : n ≤ 1000000) (hbase : base ≤ w.heap.size)
    (h : ∀ x' w', w'.ownsRow base q 32 x' (n + 1) (xs ++ p.map bval) → w.grownBy w' x.ownBlock → wpList P ops Q rest (a.put d x') w') : wpList P ops Q (o :: rest) a w :=
  wpList_plain hgd fun _ hK => wp_append_num d s y t hd ho base q hu hi hz hsz hby hzs x n xs hs hown g c p hx hb hp hn hbase (fun x' w' h1 h2 => hK _ _ (h x' w' h1 h2))
end

end Go.Proofs.YtcadfccijeodbaaDoor

/- What a slice of bytes takes. -/
namespace Go.Proofs.YtcadfccijeodbaaDoor

theorem Tryd.info34 : (Tryd.prog.info? 34).map (fun i => (i.zero, i.size)) = some (some (.slice none 0 0), 1) := by kernel_rfl

end Go.Proofs.YtcadfccijeodbaaDoor

/- The hash by blocks: a block of its own, what stands behind whole blocks makes no difference, the last blocks, the words laid out. No program. Each theorem names its own conditions. -/
namespace Go.Proofs.YtcadfccijeodbaaDoor
open Go.RowKit
set_option linter.unusedVariables false
set_option linter.unusedSimpArgs false

theorem beW_cut {m : List UInt8} {s k : Nat} (h : k + 4 ≤ 64) : beW ((m.drop s).take 64) k = beW m (s + k) := by
  have g : ∀ j, j < 64 → ((m.drop s).take 64).getD j 0 = m.getD (s + j) 0 := fun j hj => by
    simp only [List.getD, List.getElem?_take, if_pos hj, List.getElem?_drop]
  unfold beW
  rw [g k (by omega), g (k + 1) (by omega), g (k + 2) (by omega), g (k + 3) (by omega)]
  rfl
theorem wTop_cut (m : List UInt8) (s : Nat) : ∀ k, k ≤ 16 → wTop ((m.drop s).take 64) 0 k = wTop m s k
  | 0, _ => rfl
  | k + 1, h => by
    rw [wTop, wTop, wTop_cut m s k (by omega), Nat.zero_add, beW_cut (by omega)]
theorem wSch_cut (m : List UInt8) (s : Nat) : ∀ n, wSch ((m.drop s).take 64) 0 n = wSch m s n
  | 0 => wTop_cut m s 16 (Nat.le_refl _)
  | n + 1 => by rw [wSch, wSch, wSch_cut m s n]
theorem hRun_mix (m : List UInt8) (n : Nat) : hRun m (n + 1) = mixF (hRun m n) ((m.drop (64 * n)).take 64) := by
  rw [hRun, mixF, wSch_cut]
theorem hRun_front (p q : List UInt8) : ∀ n, 64 * n ≤ p.length → hRun (p ++ q) n = hRun p n
  | 0, _ => rfl
  | n + 1, h => by
    rw [hRun_mix, hRun_mix, hRun_front p q n (by omega)]
    congr 1
    rw [List.drop_append_of_le_length (by omega), List.take_append_of_le_length (by rw [List.length_drop]; omega)]
/-- One more block. -/
theorem hRun_block (p x : List UInt8) (n : Nat) (hp : p.length = 64 * n) (hx : x.length = 64) (q : List UInt8) : hRun (p ++ x ++ q) (n + 1) = mixF (hRun p n) x := by
  rw [hRun_mix, List.append_assoc, hRun_front p (x ++ q) n (by omega), List.drop_append_of_le_length (by omega), ← hp, List.drop_length, List.nil_append, List.take_append_of_le_length (by omega), List.take_of_length_le (by omega)]

theorem ofNat_mod (n : Nat) : UInt8.ofNat (n % 256) = UInt8.ofNat n := by
  apply UInt8.toNat_inj.1
  rw [UInt8.toNat_ofNat', UInt8.toNat_ofNat']
  omega
/-- A word's bytes. -/
def be4 (x : W32) : List UInt8 := [UInt8.ofNat (x.toNat / 16777216), UInt8.ofNat (x.toNat / 65536), UInt8.ofNat (x.toNat / 256), UInt8.ofNat x.toNat]
theorem put4_at (a b : List UInt8) (x0 x1 x2 x3 : UInt8) (x : W32) : put4 (a ++ x0 :: x1 :: x2 :: x3 :: b) a.length x = a ++ be4 x ++ b := by
  unfold put4 be4
  rw [List.set_append_right _ _ (by omega), List.set_append_right _ _ (by omega), List.set_append_right _ _ (by omega), List.set_append_right _ _ (by omega)]
  have e1 : a.length + 1 - a.length = 1 := by omega
  have e2 : a.length + 2 - a.length = 2 := by omega
  have e3 : a.length + 3 - a.length = 3 := by omega
  rw [Nat.sub_self, e1, e2, e3]
  simp
/-- The length's two words. -/
theorem be4_len (n : Nat) (h : n ≤ 1099511627776) : be4 (BitVec.ofNat 32 (n / 536870912)) ++ be4 (BitVec.ofNat 32 (8 * n)) = beB 8 (8 * n) := by
  have e1 : (BitVec.ofNat 32 (n / 536870912)).toNat = n / 536870912 := by rw [BitVec.toNat_ofNat]; omega
  have e2 : (BitVec.ofNat 32 (8 * n)).toNat = 8 * n % 4294967296 := by rw [BitVec.toNat_ofNat]
  have g : ∀ a b : Nat, a % 256 = b % 256 → UInt8.ofNat a = UInt8.ofNat b := fun a b h => by rw [← ofNat_mod a, ← ofNat_mod b, h]
  simp only [be4, beB, e1, e2, List.cons_append, List.nil_append, Nat.reducePow, List.cons.injEq, and_true]
  refine ⟨g _ _ ?_, g _ _ ?_, g _ _ ?_, g _ _ ?_, g _ _ ?_, g _ _ ?_, g _ _ ?_, g _ _ ?_⟩ <;> omega
/-- A last block: what stands, the bit, noughts. -/
def lastB (l : List UInt8) (f : Nat) : List UInt8 := l.take f ++ 128 :: List.replicate (63 - f) 0
theorem lastB_length {l : List UInt8} {f : Nat} (hl : f ≤ l.length) (hf : f < 64) : (lastB l f).length = 64 := by
  simp [lastB]
  omega
theorem rep8 : List.replicate 8 (0 : UInt8) = [0, 0, 0, 0, 0, 0, 0, 0] := rfl
theorem put_len (a : List UInt8) (n : Nat) (ha : a.length = 56) (h : n ≤ 1099511627776) :
    put4 (put4 (a ++ List.replicate 8 0) 56 (BitVec.ofNat 32 (n / 536870912))) 60 (BitVec.ofNat 32 (8 * n)) = a ++ beB 8 (8 * n) := by
  have e1 := put4_at a [0, 0, 0, 0] 0 0 0 0 (BitVec.ofNat 32 (n / 536870912))
  rw [ha] at e1
  rw [rep8, e1]
  have e2 := put4_at (a ++ be4 (BitVec.ofNat 32 (n / 536870912))) [] 0 0 0 0 (BitVec.ofNat 32 (8 * n))
  have e3 : (a ++ be4 (BitVec.ofNat 32 (n / 536870912))).length = 60 := by simp [be4, ha]
  rw [e3] at e2
  rw [e2, List.append_nil, List.append_assoc, be4_len n h]
/-- The hash of what ends within one more block. -/
theorem close_one (p l : List UInt8) (n f : Nat) (hp : p.length = 64 * n + f) (hf : f < 56) (hl : l.length = 64) (hlf : l.take f = p.drop (64 * n)) (hb : p.length ≤ 1099511627776) :
    hRun (padded p) ((p.length + 72) / 64) = mixF (hRun p n) (put4 (put4 (lastB l f) 56 (BitVec.ofNat 32 (p.length / 536870912))) 60 (BitVec.ofNat 32 (8 * p.length))) := by
  have e1 : lastB l f = (l.take f ++ 128 :: List.replicate (55 - f) 0) ++ List.replicate 8 0 := by
    unfold lastB
    rw [show 63 - f = (55 - f) + 8 from by omega, ← List.replicate_append_replicate]
    simp
  rw [e1, put_len _ _ (by simp; omega) hb, hlf]
  have e2 : (p.length + 72) / 64 = n + 1 := by omega
  have e3 : padN p.length = 55 - f := by unfold padN; omega
  have e4 : padded p = p.take (64 * n) ++ (p.drop (64 * n) ++ 128 :: List.replicate (55 - f) 0 ++ beB 8 (8 * p.length)) ++ [] := by
    unfold padded
    rw [e3]
    simp only [List.append_assoc, List.append_nil, List.cons_append, List.nil_append]
    rw [← List.append_assoc, List.take_append_drop]
  have e5 : hRun p n = hRun (p.take (64 * n)) n := by
    have h := hRun_front (p.take (64 * n)) (p.drop (64 * n)) n (by simp; omega)
    rwa [List.take_append_drop] at h
  rw [e2, e4, e5, hRun_block _ _ n (by simp; omega) (by simp [beB_length]; omega)]
/-- The hash of what needs two. -/
theorem close_two (p l : List UInt8) (n f : Nat) (hp : p.length = 64 * n + f) (hf : 56 ≤ f) (hf2 : f < 64) (hl : l.length = 64) (hlf : l.take f = p.drop (64 * n)) (hb : p.length ≤ 1099511627776) :
    hRun (padded p) ((p.length + 72) / 64) = mixF (mixF (hRun p n) (lastB l f)) (put4 (put4 (List.replicate 64 0) 56 (BitVec.ofNat 32 (p.length / 536870912))) 60 (BitVec.ofNat 32 (8 * p.length))) := by
  have e1 : List.replicate 64 (0 : UInt8) = List.replicate 56 0 ++ List.replicate 8 0 := rfl
  rw [e1, put_len _ _ (by simp) hb]
  have e2 : (p.length + 72) / 64 = n + 1 + 1 := by omega
  have e3 : padN p.length = (63 - f) + 56 := by unfold padN; omega
  have e4 : padded p = (p.take (64 * n) ++ lastB l f) ++ (List.replicate 56 0 ++ beB 8 (8 * p.length)) ++ [] := by
    unfold padded lastB
    rw [e3, hlf, ← List.replicate_append_replicate]
    simp only [List.append_assoc, List.append_nil, List.cons_append, List.nil_append]
    exact (congrArg (· ++ 128 :: (List.replicate (63 - f) 0 ++ (List.replicate 56 0 ++ beB 8 (8 * p.length)))) (List.take_append_drop (64 * n) p)).symm.trans (List.append_assoc _ _ _)
  have e5 : hRun p n = hRun (p.take (64 * n)) n := by
    have h := hRun_front (p.take (64 * n)) (p.drop (64 * n)) n (by simp; omega)
    rwa [List.take_append_drop] at h
  have hlb := lastB_length (l := l) (f := f) (by omega) hf2
  have e6 := hRun_block (p.take (64 * n)) (lastB l f) n (by simp; omega) hlb []
  rw [List.append_nil] at e6
  rw [e2, e4, e5, hRun_block _ _ (n + 1) (by rw [List.length_append, hlb]; simp; omega) (by simp [beB_length]), e6]

/-- The first k words, laid out. -/
def outK (h : List W32) : Nat → List UInt8
  | 0 => List.replicate 32 0
  | k + 1 => put4 (outK h k) (4 * k) (h.getD k 0#32)
theorem outK_length (h : List W32) : ∀ k, (outK h k).length = 32
  | 0 => by simp [outK]
  | k + 1 => by rw [outK, put4_length, outK_length h k]
theorem outK_full : ∀ (h : List W32), h.length = 8 → outK h 8 = outB h
  | [a, b, c, d, e, f, g, i], _ => by
    simp only [outK, put4, outB, List.range, List.range.loop, List.map_cons, List.map_nil, ofNat_mod, List.replicate, List.getD_cons_zero, List.getD_cons_succ, List.set_cons_zero, List.set_cons_succ, Nat.reduceMul, Nat.reduceAdd, Nat.reduceDiv, Nat.reduceMod, Nat.reduceSub, Nat.reducePow, Nat.div_one]

end Go.Proofs.YtcadfccijeodbaaDoor

/- clear(s) of a slice of bytes that lies in a block known whole. Nothing here speaks of a program. Each theorem names its own conditions. -/
namespace Go.Proofs.YtcadfccijeodbaaDoor
open Go.RowKit
set_option linter.unusedVariables false

section
variable {P : Program} {w : World}
theorem zeroCells_one (x : Value) (n : Nat) : (Builtin.zeroCells #[x] n).toList = List.replicate n x := by
  unfold Builtin.zeroCells
  rw [Array.toList_map]
  apply List.ext_getElem
  · simp
  · intro i h1 h2
    simp [Nat.mod_one]
theorem run_clear_bytes {t e ty : TypeId} (ht : P.underlying t = some (.slice e)) (hz : ∀ w, (zeroValue e).run P w = .ok (.int .u8 0) w) (c o n cap : Nat) (cs : List Value) (tb : TypeId) (hb : Blk w c cs tb) (hn : o + n ≤ cs.length) :
    (Builtin.clear_ #[t] ty #[.slice (some ⟨c, o, none⟩) n cap]).run P w = .ok (.tuple #[]) (w.setCells c o (List.replicate n (.int .u8 0))) := by
  cases n with
  | zero => simp [Builtin.clear_, run_underlying ht, World.setCells]
  | succ n =>
    have hst := run_storeCells_cells (P := P) c o (List.replicate (n + 1) (.int .u8 0)) 0 w (fun j hj => by
      rw [hb.cell, List.getElem?_eq_getElem (by rw [List.length_replicate] at hj; omega)]
      rfl) (fun j _ => hb.free _) (fun v hv => by rw [List.eq_of_mem_replicate hv]; rfl)
    rw [Nat.add_zero] at hst
    simp [Builtin.clear_, run_underlying ht, hz, Value.cells, zeroCells_one, hst]
end

theorem laid_append : ∀ (vs a b : List Value), vs.length = b.length → laid (a ++ b) a.length vs = a ++ vs
  | [], a, [], _ => rfl
  | v :: r, a, x :: b, h => by
    rw [laid, List.set_append_right _ _ (Nat.le_refl _), Nat.sub_self, List.set_cons_zero]
    have ih := laid_append r (a ++ [v]) b (by simpa using h)
    simpa using ih

end Go.Proofs.YtcadfccijeodbaaDoor

/- The walks of package sha's start, closed, numOf. Each theorem names its own conditions. -/
namespace Go.Proofs.YtcadfccijeodbaaDoor
open Go.RowKit
set_option linter.unusedVariables false
set_option linter.unusedSimpArgs false

set_option maxHeartbeats 1000000 in
theorem start_any (w : World) : Calls Tryd.prog 26 #[] w fun e w' => e = .returned (.agg (ints .u32 (ws H256)).toArray) ∧ Below w.heap.size w w' := by
  have HZ := Lib.hid (Blk.made w (ints .u32 (List.replicate 8 0)) 49)
  have HE := Lib.hid (Ext.alloc w (.cells (ints .u32 (List.replicate 8 0)).toArray 49))
  go_enter Tryd.func26, Tryd.ntmps26
  go_wp2_with (refine wpList_store_blk rfl _ _ _ rfl w.heap.size (ints .u32 (ws H256)) rfl rfl _ _ HZ.out rfl Tryd.arr49 (ints_one _ _) ?_; intro w1 hb1 hg1)
  refine bodyPost_ret (result_blk rfl _ w.heap.size _ _ _ _ rfl hb1 Tryd.underlying49 Tryd.arr49) rfl ?_
  exact ⟨rfl, ext_grown HE.out hg1 (Nat.le_refl _)⟩

theorem build_block (w : World) : (Instr.build 55 #[]).run Tryd.prog w = .ok (.agg ((List.replicate 64 (0 : UInt8)).map bval).toArray) w := by
  simp [Instr.build, Tryd.zeroValue55]
  rfl
theorem index_words {T e : TypeId} {n : Nat} (hT : Tryd.prog.underlying T = some (.array n e)) (hs : ∀ w, (sizeOf e).run Tryd.prog w = .ok 1 w) (ha : ∀ w, (isAgg e).run Tryd.prog w = .ok false w) (h : List W32) (hl : h.length = n) (k : Nat) (hk : k < n) (w : World) :
    (Instr.index T (.agg (ints .u32 (ws h)).toArray) (.int .i64 (k : Int))).run Tryd.prog w = .ok (.int .u32 (wi (h.getD k 0#32))) w := by
  have hg : (ints .u32 (ws h))[k]? = some (.int .u32 (wi (h.getD k 0#32))) := by rw [ints_get (by rw [ws_length, hl]; exact hk), ws_getD]
  have hi : 0 ≤ (k : Int) ∧ (k : Int) < (n : Int) := by omega
  unfold Instr.index
  simp only [asIntOf, Sem.run_bind, Sem.run_pure, Result.andThen_ok, run_underlying hT, hi, hs, part, ha]
  rw [if_pos ⟨trivial, trivial⟩]
  simp only [Sem.run_bind, hs, ha, Result.andThen_ok, Int.toNat_natCast, Nat.mul_one, List.getElem?_toArray, hg, Bool.false_eq_true, if_false, Sem.run_pure]

set_option maxRecDepth 100000 in
set_option maxHeartbeats 8000000 in
theorem sha_numOf_any (h : List W32) (hh : h.length = 8) (w : World) : Calls Tryd.prog 30 #[.agg (ints .u32 (ws h)).toArray] w fun e w' => e = .returned (.agg ((outB h).map bval).toArray) ∧ Below w.heap.size w w' := by
  have HH := Lib.hid hh
  have HB := Lib.hid (boxes3u w (ints .u32 (ws h)) (ints .u8 (List.replicate 32 0)) (ints .u8 (List.replicate 32 0)) 49 26 26)
  have HIr : Hid ((Tryd.prog.info? 49).map (·.size) = some (ints .u32 (ws h)).length) := Lib.hid (by rw [ints_length, ws_length, hh]; exact Tryd.arr49)
  clear hh
  go_enter Tryd.func30, Tryd.ntmps30
  go_upto_region 2 with (fail)
  obtain ⟨H1, H2, H3, HE⟩ := HB.out
  change Code.wp _ _ _ _ (((w.alloc (.cells (ints .u32 (ws h)).toArray 49)).alloc (.cells (ints .u8 (List.replicate 32 0)).toArray 26)).alloc (.cells (ints .u8 (List.replicate 32 0)).toArray 26))
  generalize (((w.alloc (.cells (ints .u32 (ws h)).toArray 49)).alloc (.cells (ints .u8 (List.replicate 32 0)).toArray 26)).alloc (.cells (ints .u8 (List.replicate 32 0)).toArray 26)) = w3 at *
  obtain ⟨A, hA⟩ : ∃ A, A = w.heap.size := ⟨_, rfl⟩
  rw [← hA] at H1 H2 H3 ⊢
  have hA2 : w.heap.size ≤ A := by omega
  have H1 := Lib.hid H1
  have H2 := Lib.hid H2
  have H3 := Lib.hid H3
  have HE : Hid (Ext w w3) := Lib.hid HE
  clear hA HB
  go_wp2_with (refine wpList_load_blk rfl _ _ rfl A rfl _ _ _ _ H1.out Tryd.underlying49 HIr.out ?_)
  go_loopw [7] (fun iv wr => ∃ (k : Nat), k ≤ 8 ∧ iv = .int .i64 (k : Int) ∧ Blk wr (A + 1) (ints .u8 (List.replicate 32 0)) 26 ∧ Blk wr (A + 1 + 1) ((outK h k).map bval) 26 ∧ Ext w wr) (fun iv _ => 8 - (intOf iv).toNat)
  case atStart => exact ⟨0, by omega, rfl, H2.out, H3.out, HE.out⟩
  case round =>
    clear H1 H2 H3 HE
    obtain ⟨k, hk, rfl, hb2, hb3, hbel⟩ := hrel
    have k0 : (0 : Int) ≤ (k : Int) := Int.natCast_nonneg _
    by_cases hlk : k < 8
    · have k1 : (k : Int) < 8 := by omega
      have hi := index_words Tryd.underlying49 Tryd.sizeOf47 Tryd.isAgg47 h HH.out k hlk
      have hs := cut_arr Tryd.underlying26 num_cells Tryd.sizeOf5 wr (A + 1 + 1) (4 * k) (by omega)
      have e4 : ((4 * k : Nat) : Int) = 4 * (k : Int) := by omega
      rw [e4] at hs
      have HP := Lib.hid (put_any (A + 1 + 1) (4 * k) (32 - 4 * k) (32 - 4 * k) (outK h k) (h.getD k 0#32) _ wr hb3 (by rw [outK_length]; omega) (by omega))
      have HK : Hid (outK h (k + 1) = put4 (outK h k) (4 * k) (h.getD k 0#32)) := Lib.hid rfl
      have H2 := Lib.hid hb2
      have HE := Lib.hid hbel
      clear hb2 hb3 hbel e4
      generalize h.getD k 0#32 = y at *
      go_wp2_with fail
      refine HP.out.mono ?_
      rintro e w4 ⟨rfl, hb, hg⟩
      have H2 := Lib.hid (H2.out.grown hg (by simp))
      have HE := Lib.hid (ext_grown HE.out hg (by omega))
      have H3 := Lib.hid hb
      clear hb hg HP hs hi
      go_wp2_with fail
      go_roundw
      case rel => exact ⟨k + 1, by omega, by go_num, H2.out, by rw [HK.out]; exact H3.out, HE.out⟩
      case measure => simp [intOf]; omega
    · have hk8 : k = 8 := by omega
      subst hk8
      rw [outK_full h HH.out] at hb3
      have H2 := Lib.hid hb2
      have H3 := Lib.hid hb3
      have HE := Lib.hid hbel
      clear hb2 hb3 hbel
      have HIo : Hid ((Tryd.prog.info? 26).map (·.size) = some ((outB h).map bval).length) := Lib.hid (num_size (outB_length h))
      have HLo : Hid (((outB h).map bval).length = (ints .u8 (List.replicate 32 0)).length) := Lib.hid (by rw [List.length_map, outB_length, ints_length, List.length_replicate])
      go_wp2_with (first | (refine wpList_load_blk rfl _ _ rfl (A + 1 + 1) rfl _ _ _ _ H3.out Tryd.underlying26 HIo.out ?_) | (refine wpList_store_blk rfl _ _ _ rfl (A + 1) ((outB h).map bval) rfl rfl _ _ H2.out HLo.out HIo.out (bval_one _) ?_; intro w4 hb4 hg4))
      refine bodyPost_ret (result_blk rfl _ (A + 1) _ _ _ _ rfl hb4 Tryd.underlying26 HIo.out) rfl ?_
      exact ⟨rfl, ext_grown HE.out hg4 (by omega)⟩

theorem cut_arr2 {t : TypeId} {n : Nat} {e : TypeId} (ht : Tryd.prog.underlying t = some (.array n e)) (h : ∀ w, (sizeOf e).run Tryd.prog w = .ok 1 w) (w : World) (A p : Nat) (hp : p ≤ n) :
    ∃ o, o + (n - p) ≤ n ∧ (p < n → o = p) ∧ (Instr.sliceAt t (.pointer (some ⟨A, 0, none⟩)) (some (.int .i64 (p : Int))) none none).run Tryd.prog w = .ok (.slice (some ⟨A, o, none⟩) (n - p) (n - p)) w := by
  have e1 : Tryd.prog.arrayLen t = n := by unfold Program.arrayLen; rw [ht]
  have e2 : Tryd.prog.elem t = e := by unfold Program.elem; rw [ht]
  have hr := run_sliceAt_array_l w t ⟨A, 0, none⟩ (by rw [e1, e2]; exact ht) .i64 (p : Int) (by omega) (by rw [e1]; omega)
  rw [e2, h, e1] at hr
  by_cases hpn : n = p
  · refine ⟨0, by omega, by omega, ?_⟩
    rw [hr]
    simp [slicedAt, hpn]
  · refine ⟨p, by omega, fun _ => rfl, ?_⟩
    rw [hr]
    simp [slicedAt, Addr.add, hpn]
    exact fun h => h.symm
/-- The bit and the noughts behind it, laid over a block. -/
theorem laid_last (l : List UInt8) (f o : Nat) (hl : l.length = 64) (hf : f < 64) (ho : f + 1 < 64 → o = f + 1) :
    laid ((l.map bval).set f (.int .u8 128)) o (List.replicate (63 - f) (.int .u8 0)) = (lastB l f).map bval := by
  rw [show 63 - f = 64 - (f + 1) from by omega]
  have e0 : (Value.int .u8 128) = bval 128 := rfl
  have e1 : l.set f 128 = l.take f ++ [128] ++ l.drop (f + 1) := by
    rw [List.set_eq_take_append_cons_drop, if_pos (by omega)]
    simp
  have e2 : (List.replicate (64 - (f + 1)) (Value.int .u8 0)) = (List.replicate (64 - (f + 1)) (0 : UInt8)).map bval := by rw [List.map_replicate]; rfl
  rw [e0, ← List.map_set, e1, e2]
  by_cases h : f + 1 < 64
  · rw [ho h, List.map_append]
    have h3 : f + 1 = ((l.take f ++ [128]).map bval).length := by simp; omega
    have h4 := laid_append ((List.replicate (64 - (f + 1)) (0 : UInt8)).map bval) ((l.take f ++ [128]).map bval) ((l.drop (f + 1)).map bval) (by simp; omega)
    rw [← h3] at h4
    rw [h4, ← List.map_append]
    unfold lastB
    rw [show 64 - (f + 1) = 63 - f from by omega]
    simp
  · have h3 : f = 63 := by omega
    subst h3
    unfold lastB
    simp [laid, hl]

set_option maxRecDepth 100000 in
set_option maxHeartbeats 8000000 in
/-- The hash of p, of which n blocks are told by h and f bytes lie in l. -/
theorem closed_any (p l : List UInt8) (n f : Nat) (w : World) (hp : p.length = 64 * n + f) (hf : f < 64) (hl : l.length = 64) (hlf : l.take f = p.drop (64 * n)) (hb : p.length ≤ 1099511627776) (hG : GlobR w) :
    Calls Tryd.prog 31 #[.agg (ints .u32 (ws (hRun p n))).toArray, .agg (l.map bval).toArray, .int .i64 (f : Int), .int .i64 (p.length : Int)] w fun e w' =>
      e = .returned (.agg (ints .u32 (ws (hRun (padded p) ((p.length + 72) / 64)))).toArray) ∧ Below w.heap.size w w' := by
  have HG := Lib.hid hG
  have HB := Lib.hid (boxes3u w (ints .u32 (ws (hRun p n))) (l.map bval) (ints .u32 (List.replicate 8 0)) 49 55 49)
  have HL := Lib.hid hl
  have HR := Lib.hid (hRun_length p n)
  have hb0 : (p.length : Int) ≤ 1099511627776 := by omega
  have hf0 : (f : Int) < 64 := by omega
  have HC1 : Hid (f < 56 → _) := Lib.hid (fun h56 => close_one p l n f hp h56 hl hlf hb)
  have HC2 : Hid (56 ≤ f → _) := Lib.hid (fun h56 => close_two p l n f hp h56 hf hl hlf hb)
  generalize hRun (padded p) ((p.length + 72) / 64) = R at *
  generalize hRun p n = h at *
  have HLB := Lib.hid (lastB_length (l := l) (f := f) (by omega) hf)
  clear hG hlf hp
  go_enter Tryd.func31, Tryd.ntmps31
  go_upto_region 1 with (fail)
  obtain ⟨H1, H2, H3, HE⟩ := HB.out
  change Code.wp _ _ _ _ (((w.alloc (.cells (ints .u32 (ws h)).toArray 49)).alloc (.cells (l.map bval).toArray 55)).alloc (.cells (ints .u32 (List.replicate 8 0)).toArray 49))
  generalize (((w.alloc (.cells (ints .u32 (ws h)).toArray 49)).alloc (.cells (l.map bval).toArray 55)).alloc (.cells (ints .u32 (List.replicate 8 0)).toArray 49)) = w3 at *
  obtain ⟨A, hA⟩ : ∃ A, A = w.heap.size := ⟨_, rfl⟩
  rw [← hA] at H1 H2 H3 ⊢
  have hA2 : w.heap.size ≤ A := by omega
  have c0 : w3.cell? ⟨A + 1, f, none⟩ = some (.int .u8 ((l.getD f 0).toNat : Int)) := by rw [H2.cell, bval_get (by omega)]
  have f0 := H2.free f
  have H1 := Lib.hid H1
  have H2 := Lib.hid H2
  have H3 := Lib.hid H3
  have HE : Hid (Ext w w3) := Lib.hid HE
  clear hA HB hl
  generalize ((l.getD f 0).toNat : Int) = z0 at *
  obtain ⟨o, ho1, ho2, hs⟩ := cut_arr2 Tryd.underlying55 Tryd.sizeOf5 (w3.setCell ⟨A + 1, f, none⟩ (.int .u8 128)) (A + 1) (f + 1) (by omega)
  have ef : ((f + 1 : Nat) : Int) = (f : Int) + 1 := by omega
  rw [ef] at hs
  have HB3 := Lib.hid (H2.out.set f (.int .u8 128))
  have hcl := run_clear_bytes (ty := 0) Tryd.underlying34 Tryd.zeroValue5 (A + 1) o (63 - f) (63 - f) _ _ HB3.out (by have := HL.out; simp; omega)
  have HLL := Lib.hid (laid_last l f o HL.out hf ho2)
  clear ho1 ho2 ef
  go_upto_region 3 with (fail)
  have H2 := Blk.setCells (List.replicate (63 - f) (.int .u8 0)) _ o _ HB3.out
  rw [HLL.out] at H2
  have hg : w3.grownBy ((w3.setCell ⟨A + 1, f, none⟩ (.int .u8 128)).setCells (A + 1) o (List.replicate (63 - f) (.int .u8 0))) (some (A + 1)) := grownBy_setCells _ _ _ _ (grownBy_set (grownBy_refl w3 _) _ _)
  have H1 := Lib.hid (H1.out.grown hg (by simp))
  have H3 := Lib.hid (H3.out.grown hg (by simp))
  have HE := Lib.hid (ext_grown HE.out hg (by omega))
  have H2 := Lib.hid H2
  generalize (w3.setCell ⟨A + 1, f, none⟩ (.int .u8 128)).setCells (A + 1) o (List.replicate (63 - f) (.int .u8 0)) = w4 at *
  clear hg HB3 HLL hcl hs c0 f0
  generalize hLB : lastB l f = lb at *
  have HI1 : Hid ((Tryd.prog.info? 49).map (·.size) = some (ints .u32 (ws h)).length) := Lib.hid (by rw [ints_length, ws_length, HR.out]; exact Tryd.arr49)
  have HI2 : Hid ((Tryd.prog.info? 55).map (·.size) = some (lb.map bval).length) := Lib.hid (by rw [List.length_map, HLB.out]; exact Tryd.arr55)
  have q1 : (wi (BitVec.ofNat 32 (p.length / 536870912))) = (p.length : Int) / 536870912 := by
    unfold wi
    rw [BitVec.toNat_ofNat]
    omega
  have q2 : (wi (BitVec.ofNat 32 (8 * p.length))) = (p.length : Int) * 8 % 4294967296 := by
    unfold wi
    rw [BitVec.toNat_ofNat]
    omega
  have HQ1 := Lib.hid q1
  have HQ2 := Lib.hid q2
  have hp0 : (0 : Int) ≤ (p.length : Int) := Int.natCast_nonneg _
  generalize (BitVec.ofNat 32 (p.length / 536870912)) = x1 at *
  generalize (BitVec.ofNat 32 (8 * p.length)) = x2 at *
  generalize (p.length : Int) = N at *
  clear q1 q2 hb
  have s56 : ∀ w, (Instr.sliceAt 55 (.pointer (some ⟨A + 1, 0, none⟩)) (some (.int .i64 56)) none none).run Tryd.prog w = .ok (.slice (some ⟨A + 1, 56, none⟩) 8 8) w := fun w => cut_arr Tryd.underlying55 num_cells Tryd.sizeOf5 w (A + 1) 56 (by omega)
  have s60 : ∀ w, (Instr.sliceAt 55 (.pointer (some ⟨A + 1, 0, none⟩)) (some (.int .i64 60)) none none).run Tryd.prog w = .ok (.slice (some ⟨A + 1, 60, none⟩) 4 4) w := fun w => cut_arr Tryd.underlying55 num_cells Tryd.sizeOf5 w (A + 1) 60 (by omega)
  by_cases h56 : f < 56
  · have h57 : (f : Int) < 56 := by omega
    have HP1 := put_any (A + 1) 56 8 8 lb x1 _ w4 H2.out (by rw [HLB.out]; omega) (by omega)
    rw [HQ1.out] at HP1
    have HP1 := Lib.hid HP1
    go_wp2_with fail
    refine HP1.out.mono ?_
    rintro e w5 ⟨rfl, hb, hg⟩
    have H1 := Lib.hid (H1.out.grown hg (by simp))
    have H3 := Lib.hid (H3.out.grown hg (by simp))
    have HE := Lib.hid (ext_grown HE.out hg (by omega))
    have H2 := Lib.hid hb
    clear hb hg HP1
    have HP2 := put_any (A + 1) 60 4 4 (put4 lb 56 x1) x2 _ w5 H2.out (by rw [put4_length, HLB.out]; omega) (by omega)
    rw [HQ2.out] at HP2
    have HP2 := Lib.hid HP2
    go_wp2_with fail
    refine HP2.out.mono ?_
    rintro e w6 ⟨rfl, hb, hg⟩
    have H1 := Lib.hid (H1.out.grown hg (by simp))
    have H3 := Lib.hid (H3.out.grown hg (by simp))
    have HE := Lib.hid (ext_grown HE.out hg (by omega))
    have H2 := Lib.hid hb
    clear hb hg HP2
    have HI3 : Hid ((Tryd.prog.info? 55).map (·.size) = some ((put4 (put4 lb 56 x1) 60 x2).map bval).length) := Lib.hid (by rw [List.length_map, put4_length, put4_length, HLB.out]; exact Tryd.arr55)
    have HI4 : Hid ((Tryd.prog.info? 49).map (·.size) = some (ints .u32 (ws (mixF h (put4 (put4 lb 56 x1) 60 x2)))).length) := Lib.hid (by rw [ints_length, ws_length, mixF_length, HR.out]; exact Tryd.arr49)
    have HI5 : Hid ((ints .u32 (ws (mixF h (put4 (put4 lb 56 x1) 60 x2)))).length = (ints .u32 (List.replicate 8 0)).length) := Lib.hid (by rw [ints_length, ws_length, mixF_length, HR.out, ints_length, List.length_replicate])
    have HM := Lib.hid (mixed_any h (put4 (put4 lb 56 x1) 60 x2) w6 HR.out (by rw [put4_length, put4_length, HLB.out]) (HG.out.ext HE.out))
    go_wp2_with (first | (refine wpList_load_blk rfl _ _ rfl A rfl _ _ _ _ H1.out Tryd.underlying49 HI1.out ?_) | (refine wpList_load_blk rfl _ _ rfl (A + 1) rfl _ _ _ _ H2.out Tryd.underlying55 HI3.out ?_))
    refine HM.out.mono ?_
    rintro e w7 ⟨rfl, hb⟩
    have H3 := Lib.hid (ext_blk H3.out hb)
    have HE := Lib.hid (HE.out.trans hb)
    clear hb
    go_wp2_with (refine wpList_store_blk rfl _ _ _ rfl (A + 1 + 1) (ints .u32 (ws (mixF h (put4 (put4 lb 56 x1) 60 x2)))) rfl rfl _ _ H3.out HI5.out HI4.out (ints_one _ _) ?_; intro w8 hb8 hg8)
    refine bodyPost_ret (result_blk rfl _ (A + 1 + 1) _ _ _ _ rfl hb8 Tryd.underlying49 HI4.out) rfl ?_
    exact ⟨by rw [HC1.out h56], ext_grown HE.out hg8 (by omega)⟩
  · have h57 : 56 ≤ (f : Int) := by omega
    have HMA := Lib.hid (mixed_any h lb w4 HR.out HLB.out (HG.out.ext HE.out))
    go_wp2_with (first | (refine wpList_load_blk rfl _ _ rfl A rfl _ _ _ _ H1.out Tryd.underlying49 HI1.out ?_) | (refine wpList_load_blk rfl _ _ rfl (A + 1) rfl _ _ _ _ H2.out Tryd.underlying55 HI2.out ?_))
    refine HMA.out.mono ?_
    rintro e w9 ⟨rfl, hb⟩
    have H1 := Lib.hid (ext_blk H1.out hb)
    have H2 := Lib.hid (ext_blk H2.out hb)
    have H3 := Lib.hid (ext_blk H3.out hb)
    have HE := Lib.hid (HE.out.trans hb)
    clear hb HMA HI1
    have HRM : Hid ((mixF h lb).length = 8) := Lib.hid (by rw [mixF_length, HR.out])
    have HC3 : Hid (R = _) := Lib.hid (HC2.out (by omega))
    generalize mixF h lb = h1 at *
    have HI1 : Hid ((Tryd.prog.info? 49).map (·.size) = some (ints .u32 (ws h1)).length) := Lib.hid (by rw [ints_length, ws_length, HRM.out]; exact Tryd.arr49)
    have HI6 : Hid ((ints .u32 (ws h1)).length = (ints .u32 (ws h)).length) := Lib.hid (by rw [ints_length, ws_length, HRM.out, ints_length, ws_length, HR.out])
    have HI7 : Hid ((Tryd.prog.info? 55).map (·.size) = some ((List.replicate 64 (0 : UInt8)).map bval).length) := Lib.hid Tryd.arr55
    have HI8 : Hid (((List.replicate 64 (0 : UInt8)).map bval).length = (lb.map bval).length) := Lib.hid (by rw [List.length_map, List.length_map, HLB.out, List.length_replicate])
    have hbz := build_block
    go_upto_region 6 with (first | (refine wpList_store_blk rfl _ _ _ rfl A (ints .u32 (ws h1)) rfl rfl _ _ H1.out HI6.out HI1.out (ints_one _ _) ?_; intro w10 hb10 hg10; have K1 := Lib.hid hb10; have K2 := Lib.hid (H2.out.grown hg10 (by simp)); have K3 := Lib.hid (H3.out.grown hg10 (by simp <;> omega)); have KE := Lib.hid (ext_grown HE.out hg10 (by omega)); clear hb10 hg10) | (refine wpList_store_blk rfl _ _ _ rfl (A + 1) ((List.replicate 64 (0 : UInt8)).map bval) rfl rfl _ _ K2.out HI8.out HI7.out (bval_one _) ?_; intro w11 hb11 hg11))
    have H1 := Lib.hid (K1.out.grown hg11 (by simp))
    have H3 := Lib.hid (K3.out.grown hg11 (by simp))
    have HE := Lib.hid (ext_grown KE.out hg11 (by omega))
    have H2 := Lib.hid hb11
    have HLZ : Hid ((List.replicate 64 (0 : UInt8)).length = 64) := Lib.hid (List.length_replicate)
    generalize List.replicate 64 (0 : UInt8) = lz at *
    clear hb11 hg11 K1 K2 K3 KE HI6 HI7 HI8 HI2
    have HP1 := put_any (A + 1) 56 8 8 lz x1 _ w11 H2.out (by rw [HLZ.out]; omega) (by omega)
    rw [HQ1.out] at HP1
    have HP1 := Lib.hid HP1
    go_wp2_with fail
    refine HP1.out.mono ?_
    rintro e w5 ⟨rfl, hb, hg⟩
    have H1 := Lib.hid (H1.out.grown hg (by simp))
    have H3 := Lib.hid (H3.out.grown hg (by simp))
    have HE := Lib.hid (ext_grown HE.out hg (by omega))
    have H2 := Lib.hid hb
    clear hb hg HP1
    have HP2 := put_any (A + 1) 60 4 4 (put4 lz 56 x1) x2 _ w5 H2.out (by rw [put4_length, HLZ.out]; omega) (by omega)
    rw [HQ2.out] at HP2
    have HP2 := Lib.hid HP2
    go_wp2_with fail
    refine HP2.out.mono ?_
    rintro e w6 ⟨rfl, hb, hg⟩
    have H1 := Lib.hid (H1.out.grown hg (by simp))
    have H3 := Lib.hid (H3.out.grown hg (by simp))
    have HE := Lib.hid (ext_grown HE.out hg (by omega))
    have H2 := Lib.hid hb
    clear hb hg HP2
    have HI3 : Hid ((Tryd.prog.info? 55).map (·.size) = some ((put4 (put4 lz 56 x1) 60 x2).map bval).length) := Lib.hid (by rw [List.length_map, put4_length, put4_length, HLZ.out]; exact Tryd.arr55)
    have HI4 : Hid ((Tryd.prog.info? 49).map (·.size) = some (ints .u32 (ws (mixF h1 (put4 (put4 lz 56 x1) 60 x2)))).length) := Lib.hid (by rw [ints_length, ws_length, mixF_length, HRM.out]; exact Tryd.arr49)
    have HI5 : Hid ((ints .u32 (ws (mixF h1 (put4 (put4 lz 56 x1) 60 x2)))).length = (ints .u32 (List.replicate 8 0)).length) := Lib.hid (by rw [ints_length, ws_length, mixF_length, HRM.out, ints_length, List.length_replicate])
    have HM := Lib.hid (mixed_any h1 (put4 (put4 lz 56 x1) 60 x2) w6 HRM.out (by rw [put4_length, put4_length, HLZ.out]) (HG.out.ext HE.out))
    go_wp2_with (first | (refine wpList_load_blk rfl _ _ rfl A rfl _ _ _ _ H1.out Tryd.underlying49 HI1.out ?_) | (refine wpList_load_blk rfl _ _ rfl (A + 1) rfl _ _ _ _ H2.out Tryd.underlying55 HI3.out ?_))
    refine HM.out.mono ?_
    rintro e w7 ⟨rfl, hb⟩
    have H3 := Lib.hid (ext_blk H3.out hb)
    have HE := Lib.hid (HE.out.trans hb)
    clear hb
    go_wp2_with (refine wpList_store_blk rfl _ _ _ rfl (A + 1 + 1) (ints .u32 (ws (mixF h1 (put4 (put4 lz 56 x1) 60 x2)))) rfl rfl _ _ H3.out HI5.out HI4.out (ints_one _ _) ?_; intro w8 hb8 hg8)
    refine bodyPost_ret (result_blk rfl _ (A + 1 + 1) _ _ _ _ rfl hb8 Tryd.underlying49 HI4.out) rfl ?_
    exact ⟨by rw [HC3.out], ext_grown HE.out hg8 (by omega)⟩

end Go.Proofs.YtcadfccijeodbaaDoor

/- The walk of package pieces' move: the next bytes of the open string, laid over a block. Each theorem names its own conditions. -/
namespace Go.Proofs.YtcadfccijeodbaaDoor
open Go.RowKit
set_option linter.unusedVariables false
set_option linter.unusedSimpArgs false

theorem splice_map (l c : List UInt8) (f : Nat) : splice (l.map bval) f (c.map bval) = (l.take f ++ c ++ l.drop (f + c.length)).map bval := by
  unfold splice
  simp
theorem num_one : (Tryd.prog.info? 5).map (·.size) = some 1 := by kernel_rfl
/-- A slice's length. -/
def lenV : Value → Nat
  | .slice _ n _ => n
  | _ => 0
theorem lenV_row {w : World} {v : Value} {vs : List Value} (h : Row1 w v vs) : lenV v = vs.length := by
  obtain ⟨a, cap, rfl, _⟩ := h
  rfl
theorem front_take (xr : List UInt8) (n : Nat) : ∃ c : List UInt8, c.length = Nat.min xr.length n ∧ xr = c ++ xr.drop c.length ∧ c = xr.take n := by
  refine ⟨xr.take n, by rw [List.length_take, Nat.min_comm], ?_, rfl⟩
  rcases Nat.le_total n xr.length with h | h
  · rw [List.length_take, Nat.min_eq_left h, List.take_append_drop]
  · rw [List.take_of_length_le h, List.drop_length, List.append_nil]

/-- The blocks ahead of Bo, but for M, are as they were. -/
def But (M Bo : Nat) (w w' : World) : Prop := ∀ k, k < Bo → k ≠ M → w'.heap[k]? = w.heap[k]?
theorem But.refl (M Bo : Nat) (w : World) : But M Bo w w := fun _ _ _ => rfl
theorem But.trans {M Bo : Nat} {a b c : World} (h : But M Bo a b) (g : But M Bo b c) : But M Bo a c := fun k hk hM => (g k hk hM).trans (h k hk hM)
theorem But.set {M Bo : Nat} {a b : World} (h : But M Bo a b) {p : Addr} (hp : p.block = M) (v : Value) : But M Bo a (b.setCell p v) := fun k hk hM => (heap_setCell_other b p k v (by rw [hp]; exact hM)).trans (h k hk hM)
theorem But.drew {M Bo : Nat} {a b : World} (h : But M Bo a b) : But M Bo a b.drew := h
theorem But.of_below {M Bo : Nat} {a b : World} (h : Below Bo a b) : But M Bo a b := fun k hk _ => h.block k hk

set_option maxRecDepth 100000 in
set_option maxHeartbeats 4000000 in
theorem move_cap (w0 w : World) (M Bo f K C : Nat) (ov bv : Value) (o l : List UInt8) (T : TypeId) (hM : Blk w M [ov, bv] 52) (ho : Row1 w0 ov (o.map bval)) (hl : Blk w Bo (l.map bval) T) (hlen : l.length = C) (hf : f < K) (hKC : K ≤ C) (hK : C ≤ 128)
    (he : Ext w0 w) (h0 : w0.heap.size ≤ M) (hMB : M < Bo) :
    Calls Tryd.prog 35 #[.pointer (some ⟨M, 0, none⟩), .slice (some ⟨Bo, f, none⟩) (K - f) (C - f)] w fun e w' =>
      ∃ ov' c, c = o.take (K - f) ∧ e = .returned (.int .i64 (c.length : Int)) ∧ Blk w' M [ov', bv] 52 ∧ Row1 w0 ov' ((o.drop c.length).map bval) ∧ Blk w' Bo ((l.take f ++ c ++ l.drop (f + c.length)).map bval) T ∧ Below M w w' ∧ But M Bo w w' := by
  obtain ⟨c, hcl, hcx, hct⟩ := front_take o (K - f)
  have hcm : c.length ≤ o.length := by rw [hcl]; exact Nat.min_le_left _ _
  have hcm2 : c.length ≤ K - f := by rw [hcl]; exact Nat.min_le_right _ _
  obtain ⟨v', hv', hrun⟩ := row_cut Tryd.underlying34 Tryd.sizeOf5 ho c.length (by rw [List.length_map]; exact hcm)
  rw [← List.map_drop] at hv'
  obtain ⟨a3, cap3, rfl, t1, t2, t3, t4⟩ := ho
  rw [List.length_map] at t1 hrun hM
  unfold maxLen at t2
  have HCS : Hid (0 < (c.map bval).length → some (⟨Bo, f, none⟩ : Addr) = some ⟨Bo, f, none⟩ ∧ ∃ ad, a3 = some ad ∧ ∀ (j : Nat) (v : Value), (c.map bval)[j]? = some v → w.cell? (ad.add j) = some v) := Lib.hid (fun h => by
    rw [List.length_map] at h
    obtain ⟨b3, off3, rfl, t5, t6⟩ := t4 (by intro e; have h := congrArg List.length e; rw [List.length_map] at h; simp only [List.length_nil] at h; omega)
    refine ⟨rfl, _, rfl, fun j v hj => ?_⟩
    have hjl : j < c.length := by
      rcases Nat.lt_or_ge j c.length with h | h
      · exact h
      · rw [List.getElem?_eq_none (by rw [List.length_map]; exact h)] at hj; cases hj
    have e := t6 j (by rw [List.length_map]; omega)
    have e2 : (o.map bval)[j]? = (c.map bval)[j]? := by rw [hcx, List.map_append, List.getElem?_append_left (by rw [List.length_map]; exact hjl)]
    rw [WideShapes.add_plain, ← hj, ← e2, ← e]
    exact he.cell (p := ⟨b3, off3 + j, none⟩) t5)
  have HBO := Lib.hid (hl : w.heap[Bo]? = some (.cells (l.map bval).toArray T (0, 0)))
  have HCL : Hid ((c.map bval).length = Nat.min o.length (K - f)) := Lib.hid (by rw [List.length_map, hcl])
  have HFT2 : Hid (f + (c.map bval).length ≤ (l.map bval).length) := Lib.hid (by rw [List.length_map, List.length_map, hlen]; omega)
  have HBR := Lib.hid (Below.refl M w)
  have HSP := Lib.hid (splice_map l c f)
  have HM := Lib.hid hM
  obtain ⟨a4, cap4, rfl, _⟩ := id hv'
  have HV := Lib.hid hv'
  generalize ((o.drop c.length).map bval).length = n4 at *
  have HCT := Lib.hid hct
  have c0 := hM.cell 0
  have f0 := hM.free 0
  simp only [List.getElem?_cons_zero, List.getElem?_cons_succ] at c0
  have hcm3 : (c.length : Int) ≤ (o.length : Int) := by omega
  have hc0 : (0 : Int) ≤ (c.length : Int) := Int.natCast_nonneg _
  have hMlt := hM.lt
  clear hM hl hv' hcx hct t3 t4 he hcl
  go_enter Tryd.func35, Tryd.ntmps35
  go_upto_region 2 with (refine wpList_copy_splice rfl (.tmp 6) (.tmp 10) 34 34 rfl 5 Tryd.underlying34 num_one (some ⟨Bo, f, none⟩) a3 (K - f) (C - f) o.length cap3 rfl rfl Bo f (l.map bval) T HBO.out (c.map bval) HCL.out HCS.out HFT2.out (bval_one _) Bo w (Below.refl _ w) (Nat.le_refl _) ?_; intro w5 hc5 hb5)
  have hg5 := hc5.out
  rw [HSP.out] at hg5
  have HM5 := Lib.hid (HM.out.same (hb5.block M (by omega)))
  have HO5 : Hid (Blk w5 Bo ((l.take f ++ c ++ l.drop (f + c.length)).map bval) T) := Lib.hid hg5
  have HE5 := Lib.hid (hb5.mono (Nat.le_of_lt hMB))
  have HU5 : Hid (But M Bo w w5) := Lib.hid (But.of_below hb5)
  have c0 := HM5.out.cell 0
  have f0 := HM5.out.free 0
  simp only [List.getElem?_cons_zero, List.getElem?_cons_succ] at c0
  clear hc5 hb5 hg5 HCS HBO HCL HFT2 HBR HSP HM
  go_wp2_with fail
  go_ret
  exact ⟨_, c, HCT.out, rfl, HM5.out.set 0 _, HV.out, HO5.out.far (by simp; omega) _, Below.setCell HE5.out (by simp) _, HU5.out.set rfl _⟩

end Go.Proofs.YtcadfccijeodbaaDoor

/- The walk of package pieces' Fill: a block is filled with what is still to be read. Each theorem names its own conditions. -/
namespace Go.Proofs.YtcadfccijeodbaaDoor
open Go.RowKit
set_option linter.unusedVariables false
set_option linter.unusedSimpArgs false

/-- A message in block M of which r is still to be read; its strings lie in w0. -/
def MsgSt (w0 w : World) (M : Nat) (r : List UInt8) : Prop :=
  ∃ (ov bv : Value) (o : List UInt8) (ls : List (List UInt8)), Blk w M [ov, bv] 52 ∧ Row1 w0 ov (o.map bval) ∧ RowB w0 bv ls ∧ r = o ++ ls.flatten
theorem MsgSt.same {w0 w w' : World} {M : Nat} {r : List UInt8} (h : MsgSt w0 w M r) (hb : w'.heap[M]? = w.heap[M]?) : MsgSt w0 w' M r := by
  obtain ⟨ov, bv, o, ls, h1, h2⟩ := h
  exact ⟨ov, bv, o, ls, h1.same hb, h2⟩
theorem MsgSt.lt {w0 w : World} {M : Nat} {r : List UInt8} (h : MsgSt w0 w M r) : M < w.heap.size := by
  obtain ⟨ov, bv, o, ls, h1, h2⟩ := h
  exact h1.lt
/-- What is left behind the first of a list of strings. -/
theorem rowB_tail {w : World} {v : Value} {l : List UInt8} {ls : List (List UInt8)} (h : RowB w v (l :: ls)) :
    ∃ (b off cap : Nat) (x v' : Value), v = .slice (some ⟨b, off, none⟩) (ls.length + 1) cap ∧ cap ≤ maxLen ∧ b < w.heap.size ∧ w.cell? ⟨b, off, none⟩ = some x ∧ Row1 w x (l.map bval) ∧ RowB w v' ls ∧
      ∀ w', (Instr.sliceAt 22 v (some (.int .i64 1)) none none).run Tryd.prog w' = .ok v' w' := by
  obtain ⟨vals, hr, hlen, hx⟩ := h
  match vals, hlen with
  | x :: vals, hlen =>
    obtain ⟨v', hv', hrun⟩ := row_cut Tryd.underlying22 Tryd.sizeOf34 hr 1 (by simp)
    obtain ⟨a, cap, rfl, h1, h2, h3, h4⟩ := hr
    obtain ⟨b, off, rfl, h5, h6⟩ := h4 (by simp)
    have hl : vals.length = ls.length := by simpa using hlen
    refine ⟨b, off, cap, x, v', by rw [List.length_cons, hl], h2, h5, by simpa using h6 0 (by simp), hx 0 x l rfl rfl, ⟨vals, hv', hl, fun i y k hy hk => hx (i + 1) y k (by simpa using hy) (by simpa using hk)⟩, hrun⟩
theorem rowB_form {w : World} {v : Value} {ls : List (List UInt8)} (h : RowB w v ls) : ∃ a cap, v = .slice a ls.length cap ∧ cap ≤ maxLen ∧ ls.length ≤ cap := by
  obtain ⟨vals, hr, hlen, hx⟩ := h
  obtain ⟨a, cap, rfl, h1, h2, _⟩ := hr
  exact ⟨a, cap, by rw [hlen], h2, by omega⟩
theorem row_slice {w : World} {v : Value} {l : List Value} (h : Row1 w v l) : ∃ a n cap, v = .slice a n cap := by
  obtain ⟨a, cap, rfl, _⟩ := h
  exact ⟨_, _, _, rfl⟩
def behindAt (w : World) (M : Nat) : Nat := ((w.cell? ⟨M, 1, none⟩).map lenV).getD 0
theorem cut_row (w : World) (Bo p K C : Nat) (hp : p < K) (hKC : K ≤ C) : (Instr.sliceAt 34 (.slice (some ⟨Bo, 0, none⟩) K C) (some (.int .i64 (p : Int))) none none).run Tryd.prog w = .ok (.slice (some ⟨Bo, p, none⟩) (K - p) (C - p)) w := by
  have e2 : Tryd.prog.elem 34 = 5 := by unfold Program.elem; rw [Tryd.underlying34]
  have ht2 : Tryd.prog.underlying 34 = some (.slice (Tryd.prog.elem 34)) := by rw [e2]; exact Tryd.underlying34
  rw [run_sliceAt_slice w 34 _ _ _ _ ht2, run_slice_l (ht := ht2) (kl := .i64) (l := (p : Int)) (h0 := by omega) (h1 := by omega), e2, Tryd.sizeOf5]
  simp [sliced, WideShapes.add_plain, show ¬ C = p by omega]

/-- What Fill owes. -/
def FillSaid (w0 w w' : World) (M Bo K : Nat) (r l : List UInt8) (T : TypeId) (e : Ending) : Prop :=
  ∃ c, c = r.take K ∧ e = .returned (.int .i64 (c.length : Int)) ∧ MsgSt w0 w' M (r.drop K) ∧ Blk w' Bo ((c ++ l.drop c.length).map bval) T ∧ Below M w w'
/-- One more string is moved. -/
theorem fill_next {r c l1 : List UInt8} {ls : List (List UInt8)} {c2 : List UInt8} {K : Nat} (h : r = c ++ ([] ++ (l1 :: ls).flatten)) (hc : c.length ≤ K) (h2 : c2 = l1.take (K - c.length)) :
    r = (c ++ c2) ++ (l1.drop c2.length ++ ls.flatten) ∧ (c ++ c2).length ≤ K ∧ ((c ++ c2).length < K → l1.drop c2.length = []) := by
  refine ⟨?_, ?_, ?_⟩
  · rw [h, List.nil_append, List.flatten_cons, List.append_assoc]
    congr 1
    rw [← List.append_assoc]
    congr 1
    rw [h2]
    rcases Nat.le_total (K - c.length) l1.length with h | h
    · rw [List.length_take, Nat.min_eq_left h, List.take_append_drop]
    · rw [List.take_of_length_le h, List.drop_length, List.append_nil]
  · rw [List.length_append, h2, List.length_take]; omega
  · intro h3
    rw [List.length_append, h2, List.length_take] at h3
    refine List.drop_eq_nil_of_le ?_
    rw [h2, List.length_take]
    omega
theorem fill_row (c c2 l : List UInt8) : ((c ++ l.drop c.length).take c.length ++ c2 ++ (c ++ l.drop c.length).drop (c.length + c2.length)) = (c ++ c2) ++ l.drop (c ++ c2).length := by
  rw [List.take_append_of_le_length (Nat.le_refl _), List.take_length, List.length_append]
  congr 1
  rw [List.drop_append, List.drop_eq_nil_of_le (by omega), List.nil_append, List.drop_drop]
  congr 1
  omega

set_option maxRecDepth 100000 in
set_option maxHeartbeats 8000000 in
theorem fill_cap (w0 w : World) (M Bo K C : Nat) (r l : List UInt8) (T : TypeId) (hS : MsgSt w0 w M r) (hl : Blk w Bo (l.map bval) T) (hlen : l.length = C) (hK0 : 0 < K) (hKC : K ≤ C) (hK : C ≤ 128)
    (he : Ext w0 w) (h0 : w0.heap.size ≤ M) (hMB : M < Bo) :
    Calls Tryd.prog 28 #[.pointer (some ⟨M, 0, none⟩), .slice (some ⟨Bo, 0, none⟩) K C] w fun e w' => FillSaid w0 w w' M Bo K r l T e ∧ But M Bo w w' := by
  obtain ⟨ov, bv, o, ls, hM, ho, hb, hr⟩ := hS
  have hmv := move_cap w0 w M Bo 0 K C ov bv o l T hM ho hl hlen hK0 hKC hK he h0 hMB
  rw [Nat.sub_zero, Nat.sub_zero] at hmv
  have HMV := Lib.hid hmv
  have HB := Lib.hid hb
  have HR := Lib.hid hr
  have HE0 := Lib.hid he
  have HL := Lib.hid hlen
  clear hmv hb hr hM ho hl he hlen
  go_enter Tryd.func28, Tryd.ntmps28
  go_wp2_with fail
  refine HMV.out.mono ?_
  rintro e w1 ⟨ov1, c, hc, rfl, hM, ho, hB, hbel, hbut⟩
  have HU1 := Lib.hid hbut
  have HM1 := Lib.hid hM
  have HO1 := Lib.hid ho
  have HB1 : Hid (Blk w1 Bo ((c ++ l.drop c.length).map bval) T) := Lib.hid (by simpa using hB)
  have HE1 := Lib.hid hbel
  have HC := Lib.hid hc
  clear hM ho hB hbel hc HMV hbut
  have HREL : Hid (r = c ++ (o.drop c.length ++ ls.flatten) ∧ c.length ≤ K ∧ (c.length < K → o.drop c.length = [])) := Lib.hid (by
    refine ⟨?_, ?_, ?_⟩
    · rw [HR.out, HC.out]
      rcases Nat.le_total K o.length with h | h
      · rw [List.length_take, Nat.min_eq_left h, ← List.append_assoc, List.take_append_drop]
      · rw [List.take_of_length_le h, List.drop_length, List.nil_append]
    · rw [HC.out, List.length_take]; exact Nat.min_le_left _ _
    · intro h
      rw [HC.out, List.length_take] at h
      refine List.drop_eq_nil_of_le ?_
      rw [HC.out, List.length_take]
      show o.length ≤ min K o.length
      omega)
  go_wp2_with fail
  go_loopw [5] (fun i5 wr => ∃ (c o : List UInt8) (ls : List (List UInt8)) (ov bv : Value), i5 = .int .i64 (c.length : Int) ∧ (r = c ++ (o ++ ls.flatten) ∧ c.length ≤ K ∧ (c.length < K → o = [])) ∧ Blk wr M [ov, bv] 52 ∧ Row1 w0 ov (o.map bval) ∧ RowB w0 bv ls ∧ Blk wr Bo ((c ++ l.drop c.length).map bval) T ∧ Below M w wr ∧ But M Bo w wr) (fun _ wr => behindAt wr M)
  case atStart => exact ⟨c, o.drop c.length, ls, ov1, bv, rfl, HREL.out, HM1.out, HO1.out, HB.out, HB1.out, HE1.out, HU1.out⟩
  case round =>
    clear HREL HM1 HO1 HB HB1 HE1 HC HR HU1
    obtain ⟨c, o, ls, ov, bv, rfl, ⟨hr, hcK, hco⟩, hM, ho, hb, hB, hbel, hbut⟩ := hrel
    have HBU := Lib.hid hbut
    clear hbut
    have c0 := hM.cell 0
    have c1 := hM.cell 1
    have f0 := hM.free 0
    have f1 := hM.free 1
    simp only [List.getElem?_cons_zero, List.getElem?_cons_succ] at c0 c1
    by_cases hlt : c.length < K
    · have ho2 := hco hlt
      subst ho2
      have k1 : (c.length : Int) < (K : Int) := by omega
      cases ls with
      | nil =>
        obtain ⟨ab, capb, rfl, g1, g2⟩ := rowB_form hb
        have HF : Hid (MsgSt w0 wr M (r.drop K)) := Lib.hid ⟨ov, _, [], [], hM, ho, hb, by rw [hr]; simpa using Nat.le_of_lt hlt⟩
        have HBX := Lib.hid hB
        have HBL := Lib.hid hbel
        have HT : Hid (c = r.take K) := Lib.hid (by rw [hr]; simp only [List.flatten_nil, List.append_nil]; exact (List.take_of_length_le hcK).symm)
        clear hM ho hb hB hbel hr hco
        simp only [List.length_nil] at c1
        go_wp2_with fail
        go_ret
        unfold FillSaid
        exact ⟨⟨c, HT.out, rfl, HF.out, HBX.out, HBL.out⟩, HBU.out⟩
      | cons l1 ls =>
        obtain ⟨b', off', capb, xv, bv', rfl, g1, g2, g3, g4, g5, g6⟩ := rowB_tail hb
        obtain ⟨xa, xn, xcap, hxe⟩ := row_slice g4
        subst hxe
        obtain ⟨ba, bcap, hbe, g7, g8⟩ := rowB_form g5
        subst hbe
        have cx : wr.cell? ⟨b', off', none⟩ = some (.slice xa xn xcap) := by
          rw [← g3]
          exact (Below.trans HE0.out (hbel.mono h0)).cell (p := ⟨b', off', none⟩) g2
        have hcut := cut_row wr Bo c.length K C hlt hKC
        have n0 : (0 : Int) ≤ (ls.length : Int) := Int.natCast_nonneg _
        have n1 : (0 : Int) < (ls.length : Int) + 1 := by omega
        have n2 : (0 : Int) < ((ls.length + 1 : Nat) : Int) := by omega
        have n3 : (1 : Int) ≤ ((ls.length + 1 : Nat) : Int) := by omega
        have HFT := Lib.hid (show behindAt wr M = ls.length + 1 by unfold behindAt; rw [c1]; rfl)
        have HR := Lib.hid hr
        have HM := Lib.hid hM
        have HBX := Lib.hid hB
        have HBL := Lib.hid hbel
        have HX := Lib.hid g4
        have HBV := Lib.hid g5
        unfold maxLen at g1 g7
        clear hM ho hb hB hbel hr hco g2 g3 g4 g5
        go_upto_region 3 with (fail)
        go_region
        have HM2 : Hid (Blk ((wr.setCell ⟨M, 0, none⟩ (.slice xa xn xcap)).setCell ⟨M, 1, none⟩ (.slice ba ls.length bcap)).drew M [.slice xa xn xcap, .slice ba ls.length bcap] 52) := Lib.hid (((HM.out.set 0 _).set 1 _).drewN 1)
        have HBX2 : Hid (Blk ((wr.setCell ⟨M, 0, none⟩ (.slice xa xn xcap)).setCell ⟨M, 1, none⟩ (.slice ba ls.length bcap)).drew Bo ((c ++ l.drop c.length).map bval) T) := Lib.hid (((HBX.out.far (by simp; omega) _).far (by simp; omega) _).drewN 1)
        have HBL2 : Hid (Below M w ((wr.setCell ⟨M, 0, none⟩ (.slice xa xn xcap)).setCell ⟨M, 1, none⟩ (.slice ba ls.length bcap)).drew) := Lib.hid ((Below.setCell (Below.setCell HBL.out (by simp) _) (by simp) _).drew)
        have HBU2 : Hid (But M Bo w ((wr.setCell ⟨M, 0, none⟩ (.slice xa xn xcap)).setCell ⟨M, 1, none⟩ (.slice ba ls.length bcap)).drew) := Lib.hid ((HBU.out.set rfl _).set rfl _).drew
        generalize ((wr.setCell ⟨M, 0, none⟩ (.slice xa xn xcap)).setCell ⟨M, 1, none⟩ (.slice ba ls.length bcap)).drew = w2 at *
        clear HM HBX HBL c0 c1 f0 f1 cx
        have HMV := Lib.hid (move_cap w0 w2 M Bo c.length K C _ _ l1 (c ++ l.drop c.length) T HM2.out HX.out HBX2.out (by simp [HL.out]; omega) hlt hKC hK (Below.trans HE0.out (HBL2.out.mono h0)) h0 hMB)
        have hcut := cut_row w2 Bo c.length K C hlt hKC
        go_wp2_with fail
        refine HMV.out.mono ?_
        rintro e w3 ⟨ov', c2, hc2, rfl, hM, ho, hB, hbel, hbut⟩
        have HBU3 := Lib.hid (HBU2.out.trans hbut)
        rw [fill_row] at hB
        have HN := Lib.hid (fill_next HR.out hcK hc2)
        have HM3 := Lib.hid hM
        have HO3 := Lib.hid ho
        have HB3 := Lib.hid hB
        have HBL3 := Lib.hid (Below.trans HBL2.out hbel)
        have hc2l : (c2.length : Int) ≤ 128 := by have := HN.out.2.1; rw [List.length_append] at this; omega
        have hc20 : (0 : Int) ≤ (c2.length : Int) := Int.natCast_nonneg _
        have c1 := HM3.out.cell 1
        simp only [List.getElem?_cons_zero, List.getElem?_cons_succ] at c1
        have HMS := Lib.hid (show behindAt w3 M = ls.length by unfold behindAt; rw [c1]; rfl)
        clear hM ho hB hbel hbut hc2 HMV HM2 HBX2 HBL2 c1
        go_wp2_with fail
        go_roundw
        case rel => exact ⟨c ++ c2, _, ls, _, _, by rw [List.length_append]; go_num, HN.out, HM3.out, HO3.out, HBV.out, HB3.out, HBL3.out, HBU3.out⟩
        case measure => rw [HMS.out, HFT.out]; omega
    · have hcK2 : c.length = K := by omega
      have hlt2 : ¬ (c.length : Int) < (K : Int) := by omega
      have hd2 : decide ((c.length : Int) < (K : Int)) = false := decide_eq_false hlt2
      have HF : Hid (MsgSt w0 wr M (r.drop K)) := Lib.hid ⟨ov, bv, o, ls, hM, ho, hb, by rw [hr, List.drop_append_of_le_length (by omega), List.drop_of_length_le (by omega), List.nil_append]⟩
      have HBX := Lib.hid hB
      have HBL := Lib.hid hbel
      have HT : Hid (c = r.take K) := Lib.hid (by rw [hr, List.take_append_of_le_length (by omega), List.take_of_length_le (by omega)])
      clear hM ho hb hB hbel hr hco hcK2
      go_wp2_with fail
      go_ret
      unfold FillSaid
      exact ⟨⟨c, HT.out, rfl, HF.out, HBX.out, HBL.out⟩, HBU.out⟩

theorem fill_any (w0 w : World) (M Bo K : Nat) (r l : List UInt8) (T : TypeId) (hS : MsgSt w0 w M r) (hl : Blk w Bo (l.map bval) T) (hlen : l.length = K) (hK0 : 0 < K) (hK : K ≤ 128)
    (he : Ext w0 w) (h0 : w0.heap.size ≤ M) (hMB : M < Bo) :
    Calls Tryd.prog 28 #[.pointer (some ⟨M, 0, none⟩), .slice (some ⟨Bo, 0, none⟩) K K] w fun e w' => FillSaid w0 w w' M Bo K r l T e :=
  (fill_cap w0 w M Bo K K r l T hS hl hlen hK0 (Nat.le_refl _) hK he h0 hMB).mono fun _ _ h => h.1

end Go.Proofs.YtcadfccijeodbaaDoor

/- The walk of package pieces' Of. Each theorem names its own conditions. -/
namespace Go.Proofs.YtcadfccijeodbaaDoor
open Go.RowKit
set_option linter.unusedVariables false
set_option linter.unusedSimpArgs false

theorem msg_size : (Tryd.prog.info? 52).map (·.size) = some (#[Value.slice none 0 0, Value.slice none 0 0]).size := by kernel_rfl

set_option maxRecDepth 100000 in
set_option maxHeartbeats 4000000 in
theorem of_any (a : Option Addr) (n cap : Nat) (w : World) :
    Calls Tryd.prog 27 #[.slice a n cap] w fun e w' => e = .returned (.agg #[.slice none 0 0, .slice a n cap]) ∧ Below w.heap.size w w' := by
  go_enter Tryd.func27, Tryd.ntmps27
  go_wp2_with fail
  refine bodyPost_ret (results_cell_row rfl _ _ w.heap.size _ _ _ _ rfl (Blk.made w [.slice none 0 0, .slice a n cap] 52) Tryd.underlying52 rfl msg_size) rfl ?_
  exact ⟨rfl, Ext.alloc w (.cells #[.slice none 0 0, .slice a n cap] 52)⟩

end Go.Proofs.YtcadfccijeodbaaDoor

/- The walk of package sha's Sum. Each theorem names its own conditions. -/
namespace Go.Proofs.YtcadfccijeodbaaDoor
open Go.RowKit
set_option linter.unusedVariables false
set_option linter.unusedSimpArgs false

/-- One more block of a message. -/
theorem hRun_next (m x : List UInt8) (n : Nat) (hx : x = (m.drop (64 * n)).take 64) : mixF (hRun m n) x = hRun m (n + 1) := by rw [hRun_mix, hx]
/-- The last piece, laid over a block. -/
theorem last_top {c l d : List UInt8} {n : Nat} (h : c = d.take 64) (hn : c.length = n) (hd : n < 64) : (c ++ l.drop c.length).take n = d := by
  have hl : d.length = n := by
    rw [h, List.length_take] at hn
    omega
  rw [← hn, List.take_append_of_le_length (Nat.le_refl _), List.take_length, h, List.take_of_length_le (by omega)]
theorem filled_length {c l d : List UInt8} (h : c = d.take 64) (hl : l.length = 64) : (c ++ l.drop c.length).length = 64 := by
  have : c.length ≤ 64 := by rw [h, List.length_take]; omega
  simp
  omega
/-- The state of the hash of m: n blocks told, the next piece of it laid in the block. -/
structure ShaSt (w0 w : World) (Bh Bm Bo : Nat) (m : List UInt8) (n : Nat) (c l : List UInt8) : Prop where
  all : l.length = 64
  few : 64 * n + c.length ≤ m.length
  piece : c = (m.drop (64 * n)).take 64
  blkH : Blk w Bh (ints .u32 (ws (hRun m n))) 49
  msg : MsgSt w0 w Bm ((m.drop (64 * n)).drop 64)
  blkO : Blk w Bo ((c ++ l.drop c.length).map bval) 55

set_option maxRecDepth 100000 in
set_option maxHeartbeats 8000000 in
theorem Sum_num (v : Value) (ls : List (List UInt8)) (w : World) (hv : RowB w v ls) (hb : ls.flatten.length ≤ 1099511627776) (hG : GlobR w) :
    Calls Tryd.prog 18 #[v] w fun e w' => e = .returned (.agg ((sha256 ls.flatten).map bval).toArray) ∧ Below w.heap.size w w' := by
  obtain ⟨a, cap, rfl, r1, r2⟩ := rowB_form hv
  obtain ⟨m, hm⟩ : ∃ m, m = ls.flatten := ⟨_, rfl⟩
  rw [← hm] at hb ⊢
  have HMD := Lib.hid hm
  clear hm
  have HRB := Lib.hid hv
  have HG := Lib.hid hG
  have HB := Lib.hid hb
  have HZ := Lib.hid (Blk.made w (ints .u8 (List.replicate 32 0)) 26)
  have HE := Lib.hid (Ext.alloc w (.cells (ints .u8 (List.replicate 32 0)).toArray 26))
  unfold maxLen at r1
  clear hv hG hb
  go_enter Tryd.func18, Tryd.ntmps18
  go_wp2_with fail
  change Calls _ _ _ (w.alloc (.cells (ints .u8 (List.replicate 32 0)).toArray 26)) _
  generalize w.alloc (.cells (ints .u8 (List.replicate 32 0)).toArray 26) = w1 at *
  obtain ⟨A, hA⟩ : ∃ A, A = w.heap.size := ⟨_, rfl⟩
  have HZ := HZ.out
  rw [← hA] at HZ ⊢
  have hA2 : w.heap.size ≤ A := by omega
  have HZ := Lib.hid HZ
  clear hA
  refine (start_any w1).mono ?_
  rintro e w2 ⟨rfl, hb⟩
  have HZ := Lib.hid (ext_blk HZ.out hb)
  have HE := Lib.hid (HE.out.trans hb)
  clear hb
  have HZL := Lib.hid HZ.out.lt
  have HH := Lib.hid (Blk.made w2 (ints .u32 (List.replicate 8 0)) 49)
  have HZ := Lib.hid (HZ.out.alloc (.cells (ints .u32 (List.replicate 8 0)).toArray 49))
  have HS := Lib.hid HE.out.size
  have HE := Lib.hid (HE.out.trans (Ext.alloc w2 (.cells (ints .u32 (List.replicate 8 0)).toArray 49)))
  go_upto_region 2 with (refine wpList_store_blk rfl _ _ _ rfl w2.heap.size (ints .u32 (ws H256)) rfl rfl _ _ HH.out rfl Tryd.arr49 (ints_one _ _) ?_; intro w3 hb3 hg3)
  have HZ := Lib.hid (HZ.out.grown hg3 (by have := HZL.out; simp; omega))
  have HE := Lib.hid (ext_grown HE.out hg3 HS.out)
  have HH := Lib.hid hb3
  have HAB : Hid (A < w2.heap.size) := HZL
  generalize w2.heap.size = Bh at *
  clear hb3 hg3 HZL HS
  go_wp2_with fail
  refine (of_any a ls.length cap w3).mono ?_
  rintro e w4 ⟨rfl, hb⟩
  have HZ := Lib.hid (ext_blk HZ.out hb)
  have HHL := Lib.hid (Nat.lt_of_lt_of_le HH.out.lt hb.size)
  have HH := Lib.hid (ext_blk HH.out hb)
  have HE := Lib.hid (HE.out.trans hb)
  clear hb
  go_upto_region 3 with (fail)
  have HM := Lib.hid (Blk.made w4 [.slice none 0 0, .slice a ls.length cap] 52)
  have HH := Lib.hid (HH.out.alloc (.cells #[.slice none 0 0, .slice a ls.length cap] 52))
  have HZ := Lib.hid (HZ.out.alloc (.cells #[.slice none 0 0, .slice a ls.length cap] 52))
  have HS4 := Lib.hid HE.out.size
  have HE := Lib.hid (HE.out.trans (Ext.alloc w4 (.cells #[.slice none 0 0, .slice a ls.length cap] 52)))
  have HML : Hid (w4.heap.size < (w4.alloc (.cells #[.slice none 0 0, .slice a ls.length cap] 52)).heap.size) := Lib.hid (by simp)
  have HM : Hid (MsgSt w (w4.alloc (.cells #[.slice none 0 0, .slice a ls.length cap] 52)) w4.heap.size m) := Lib.hid ⟨_, _, [], ls, HM.out, Row1.nil w, HRB.out, by rw [HMD.out]; simp⟩
  generalize w4.alloc (.cells #[.slice none 0 0, .slice a ls.length cap] 52) = w5 at *
  have HBM : Hid (Bh < w4.heap.size) := HHL
  have hS4 : w.heap.size ≤ w4.heap.size := HS4.out
  generalize w4.heap.size = Bm at *
  clear HHL HS4
  have HO : Hid (Blk (w5.alloc (.cells (ints .u8 (List.replicate 64 0)).toArray 55)) w5.heap.size ((List.replicate 64 (0 : UInt8)).map bval) 55) := Lib.hid (Blk.made w5 (ints .u8 (List.replicate 64 0)) 55)
  have HM : Hid (MsgSt w (w5.alloc (.cells (ints .u8 (List.replicate 64 0)).toArray 55)) Bm m) := Lib.hid (HM.out.same (heap_alloc_old w5 _ HML.out))
  have HH := Lib.hid (HH.out.alloc (.cells (ints .u8 (List.replicate 64 0)).toArray 55))
  have HZ := Lib.hid (HZ.out.alloc (.cells (ints .u8 (List.replicate 64 0)).toArray 55))
  have HE := Lib.hid (HE.out.trans (Ext.alloc w5 (.cells (ints .u8 (List.replicate 64 0)).toArray 55)))
  go_upto_region 4 with (fail)
  change Code.wp _ _ _ _ (w5.alloc (.cells (ints .u8 (List.replicate 64 0)).toArray 55))
  generalize w5.alloc (.cells (ints .u8 (List.replicate 64 0)).toArray 55) = w6 at *
  generalize w5.heap.size = Bo at *
  have HF := Lib.hid (fill_any w w6 Bm Bo 64 m (List.replicate 64 0) 55 HM.out HO.out rfl (by omega) (by omega) HE.out hS4 HML.out)
  clear HM HO
  go_wp2_with fail
  refine HF.out.mono ?_
  intro e w7 hf
  unfold FillSaid at hf
  obtain ⟨c, hc, rfl, hM, hO, hbel⟩ := hf
  have HH := Lib.hid (HH.out.same (hbel.block Bh HBM.out))
  have HZ := Lib.hid (HZ.out.same (hbel.block A (Nat.lt_trans HAB.out HBM.out)))
  have HE : Hid (Ext w w7) := Lib.hid (Below.trans HE.out (hbel.mono hS4))
  have HST : Hid (ShaSt w w7 Bh Bm Bo m 0 c (List.replicate 64 0)) := Lib.hid ⟨rfl, by rw [hc, List.length_take]; omega, by rw [hc]; rfl, HH.out, hM, hO⟩
  clear HH hc hM hO hbel HF HRB
  go_wp2_with fail
  go_loopw [4, 7] (fun i4 i7 wr => ∃ (n : Nat) (c l : List UInt8), i4 = .int .i64 (64 * (n : Int)) ∧ i7 = .int .i64 (c.length : Int) ∧ ShaSt w wr Bh Bm Bo m n c l ∧ Blk wr A (ints .u8 (List.replicate 32 0)) 26 ∧ Ext w wr) (fun i4 _ _ => m.length - (intOf i4).toNat)
  case atStart => exact ⟨0, c, List.replicate 64 0, rfl, rfl, HST.out, HZ.out, HE.out⟩
  case round =>
    clear HST HZ HE
    obtain ⟨n, c, l, rfl, rfl, hst, hz, hbel⟩ := hrel
    have n0 : (0 : Int) ≤ (n : Int) := Int.natCast_nonneg _
    have c0 : (0 : Int) ≤ (c.length : Int) := Int.natCast_nonneg _
    have hc64 : c.length ≤ 64 := by rw [hst.piece, List.length_take]; omega
    have hcl := hst.few
    have hn40 : 64 * (n : Int) + (c.length : Int) ≤ 1099511627776 := by have := HB.out; omega
    have HJ := Lib.hid (filled_length (c := c) (l := l) hst.piece hst.all)
    have HR8 := Lib.hid (hRun_length m n)
    have HI1 : Hid ((Tryd.prog.info? 49).map (·.size) = some (ints .u32 (ws (hRun m n))).length) := Lib.hid (by rw [ints_length, ws_length, hRun_length]; exact Tryd.arr49)
    have HI2 : Hid ((Tryd.prog.info? 55).map (·.size) = some ((c ++ l.drop c.length).map bval).length) := Lib.hid (by rw [List.length_map, HJ.out]; exact Tryd.arr55)
    have HH := Lib.hid hst.blkH
    have HO := Lib.hid hst.blkO
    have HMS := Lib.hid hst.msg
    have HP := Lib.hid hst.piece
    have HA := Lib.hid hst.all
    have HZ := Lib.hid hz
    have HE := Lib.hid hbel
    have HFW := Lib.hid hcl
    clear hz hbel hst hcl
    by_cases h64 : c.length = 64
    · have t64 : ((c.length : Int) == 64) = true := by simp; omega
      have HC := Lib.hid h64
      have HX : Hid (c ++ l.drop c.length = (m.drop (64 * n)).take 64) := Lib.hid (by rw [h64, List.drop_eq_nil_of_le (by rw [HA.out]; omega), List.append_nil]; exact HP.out)
      have hn41 : 64 * (n : Int) + 64 ≤ 1099511627776 := by omega
      have HMX := Lib.hid (mixed_any (hRun m n) (c ++ l.drop c.length) wr HR8.out HJ.out (HG.out.ext HE.out))
      rw [hRun_next m _ n HX.out] at HMX
      have HJ2 := HJ
      generalize c ++ l.drop c.length = l2 at *
      have HI3 : Hid ((Tryd.prog.info? 49).map (·.size) = some (ints .u32 (ws (hRun m (n + 1)))).length) := Lib.hid (by rw [ints_length, ws_length, hRun_length]; exact Tryd.arr49)
      have HI4 : Hid ((ints .u32 (ws (hRun m (n + 1)))).length = (ints .u32 (ws (hRun m n))).length) := Lib.hid (by rw [ints_length, ws_length, hRun_length, ints_length, ws_length, hRun_length])
      clear h64 hc64
      generalize hRun m n = h0 at *
      obtain ⟨h1, hh1⟩ : ∃ h1, h1 = hRun m (n + 1) := ⟨_, rfl⟩
      rw [← hh1] at HMX HI3 HI4
      have HH1 := Lib.hid hh1
      clear hh1
      go_wp2_with (first | (refine wpList_load_blk rfl _ _ rfl Bh rfl _ _ _ _ HH.out Tryd.underlying49 HI1.out ?_) | (refine wpList_load_blk rfl _ _ rfl Bo rfl _ _ _ _ HO.out Tryd.underlying55 HI2.out ?_))
      refine HMX.out.mono ?_
      rintro e w8 ⟨rfl, hb⟩
      have HZ := Lib.hid (ext_blk HZ.out hb)
      have HH := Lib.hid (ext_blk HH.out hb)
      have HO := Lib.hid (ext_blk HO.out hb)
      have HMS := Lib.hid (HMS.out.same (hb.block Bm HMS.out.lt))
      have HE := Lib.hid (HE.out.trans hb)
      clear hb HMX
      go_upto_region 7 with (refine wpList_store_blk rfl _ _ _ rfl Bh (ints .u32 (ws h1)) rfl rfl _ _ HH.out HI4.out HI3.out (ints_one _ _) ?_; intro w9 hb9 hg9)
      have HZ := Lib.hid (HZ.out.grown hg9 (by have := HAB.out; simp; omega))
      have HO := Lib.hid (HO.out.grown hg9 (by have := HBM.out; have := HML.out; simp; omega))
      have HMS := Lib.hid (HMS.out.same (hg9.block Bm HMS.out.lt (by have := HBM.out; simp; omega)))
      have HE := Lib.hid (ext_grown HE.out hg9 (by have := HAB.out; omega))
      have HH := Lib.hid hb9
      clear hb9 hg9
      have HF := Lib.hid (fill_any w w9 Bm Bo 64 _ l2 55 HMS.out HO.out HJ2.out (by omega) (by omega) HE.out hS4 HML.out)
      clear HMS HO
      go_wp2_with fail
      refine HF.out.mono ?_
      intro e w10 hf
      unfold FillSaid at hf
      obtain ⟨c2, hc2, rfl, hM, hO, hbel⟩ := hf
      have HH := Lib.hid (HH.out.same (hbel.block Bh HBM.out))
      have HZ := Lib.hid (HZ.out.same (hbel.block A (Nat.lt_trans HAB.out HBM.out)))
      have HE : Hid (Ext w w10) := Lib.hid (Below.trans HE.out (hbel.mono hS4))
      have e64 : (m.drop (64 * n)).drop 64 = m.drop (64 * (n + 1)) := by rw [List.drop_drop, show 64 * n + 64 = 64 * (n + 1) from by omega]
      rw [e64] at hc2 hM
      have HST : Hid (ShaSt w w10 Bh Bm Bo m (n + 1) c2 l2) := Lib.hid ⟨HJ2.out, by rw [hc2, List.length_take, List.length_drop]; have := HFW.out; have := HC.out; omega, hc2, by rw [← HH1.out]; exact HH.out, hM, hO⟩
      have HFN : Hid (64 * (n + 1) ≤ m.length) := Lib.hid (by have := HFW.out; have := HC.out; omega)
      clear HH hc2 hM hO hbel HF e64 t64
      go_wp2_with fail
      go_roundw
      case rel => exact ⟨n + 1, c2, l2, by go_num, rfl, HST.out, HZ.out, HE.out⟩
      case measure => have := HFN.out; simp [intOf]; omega
    · have t64 : ((c.length : Int) == 64) = false := by simp; omega
      have hpl : m.length = 64 * n + c.length := by
        have h := congrArg List.length HP.out
        rw [List.length_take, List.length_drop] at h
        have := HFW.out
        omega
      have hpi : 64 * (n : Int) + (c.length : Int) = (m.length : Int) := by omega
      have HTP := Lib.hid (last_top (l := l) HP.out rfl (by omega))
      have HCA := Lib.hid (closed_any m (c ++ l.drop c.length) n c.length wr hpl (by omega) HJ.out HTP.out HB.out (HG.out.ext HE.out))
      clear h64 hpl hc64
      generalize c ++ l.drop c.length = l2 at *
      go_wp2_with (first | (refine wpList_load_blk rfl _ _ rfl Bh rfl _ _ _ _ HH.out Tryd.underlying49 HI1.out ?_) | (refine wpList_load_blk rfl _ _ rfl Bo rfl _ _ _ _ HO.out Tryd.underlying55 HI2.out ?_))
      refine HCA.out.mono ?_
      rintro e w5 ⟨rfl, hb⟩
      have HZ := Lib.hid (ext_blk HZ.out hb)
      have HE := Lib.hid (HE.out.trans hb)
      clear hb HCA
      have HSH : Hid (outB (hRun (padded m) ((m.length + 72) / 64)) = sha256 m) := Lib.hid rfl
      have HL8 := Lib.hid (hRun_length (padded m) ((m.length + 72) / 64))
      generalize hRun (padded m) ((m.length + 72) / 64) = R at *
      go_wp2_with fail
      refine (sha_numOf_any R HL8.out w5).mono ?_
      rintro e w6 ⟨rfl, hb⟩
      have HZ := Lib.hid (ext_blk HZ.out hb)
      have HE := Lib.hid (HE.out.trans hb)
      clear hb
      obtain ⟨o, ho⟩ : ∃ o, o = sha256 m := ⟨_, rfl⟩
      rw [HSH.out, ← ho]
      have HOL : Hid (o.length = 32) := Lib.hid (by rw [ho, sha256_length])
      have HOO := Lib.hid ho
      clear ho
      have HIo : Hid ((Tryd.prog.info? 26).map (·.size) = some (o.map bval).length) := Lib.hid (num_size HOL.out)
      have HLo : Hid ((o.map bval).length = (ints .u8 (List.replicate 32 0)).length) := Lib.hid (by rw [List.length_map, HOL.out, ints_length, List.length_replicate])
      go_wp2_with (refine wpList_store_blk rfl _ _ _ rfl A (o.map bval) rfl rfl _ _ HZ.out HLo.out HIo.out (bval_one _) ?_; intro w7 hb7 hg7)
      refine bodyPost_ret (result_blk rfl _ A _ _ _ _ rfl hb7 Tryd.underlying26 HIo.out) rfl ?_
      exact ⟨by rw [HOO.out], ext_grown HE.out hg7 (by omega)⟩

end Go.Proofs.YtcadfccijeodbaaDoor

/- Forms of rows and of a row of the call's own; a byte turned by another; pieces of a list. Nothing here speaks of a program. Each theorem names its own conditions. -/
namespace Go.Proofs.YtcadfccijeodbaaDoor
open Go.RowKit
set_option linter.unusedVariables false
set_option linter.unusedSimpArgs false

theorem own_form {w : World} {base n : Nat} {e : TypeId} {x : Value} {xs : List Value} (h : w.ownsRow base e 1 x n xs) (hn : 0 < n) :
    ∃ g cap cur, x = .slice (some ⟨g, 0, none⟩) n cap ∧ base ≤ g ∧ Blk w g cur e ∧ n ≤ cap ∧ cap ≤ maxLen ∧ cur.take n = xs ∧ n ≤ cur.length := by
  obtain ⟨h1, ⟨_, h0⟩ | ⟨g, cap, cur, rfl, h2, h3, h4, h5, h6, h7⟩⟩ := h
  · omega
  · rw [Nat.mul_one] at h7
    refine ⟨g, cap, cur.toList, rfl, h2, h3, h4, h5, h7, ?_⟩
    have := congrArg List.length h7
    rw [List.length_take] at this
    omega
theorem xor_u8 (a b : UInt8) : bits .xor .u8 (a.toNat : Int) (b.toNat : Int) = ((a ^^^ b).toNat : Int) := by
  have e1 : (BitVec.ofInt 8 (a.toNat : Int)) = a.toBitVec := by
    apply BitVec.eq_of_toNat_eq
    have := a.toNat_lt
    rw [BitVec.toNat_ofInt]
    show _ = a.toNat
    omega
  have e2 : (BitVec.ofInt 8 (b.toNat : Int)) = b.toBitVec := by
    apply BitVec.eq_of_toNat_eq
    have := b.toNat_lt
    rw [BitVec.toNat_ofInt]
    show _ = b.toNat
    omega
  show IntKind.u8.wrap ((BitVec.ofInt 8 (a.toNat : Int) ^^^ BitVec.ofInt 8 (b.toNat : Int)).toNat : Nat) = _
  rw [e1, e2, IntKind.wrap_u8]
  have h := (a ^^^ b).toNat_lt
  have e3 : (a.toBitVec ^^^ b.toBitVec).toNat = (a ^^^ b).toNat := rfl
  rw [e3]
  omega

theorem info_two {P : Program} {t : TypeId} {z : Value} {n : Nat} (h : (P.info? t).map (fun i => (i.zero, i.size)) = some (some z, n)) : ∃ i, P.info? t = some i ∧ i.zero = some z ∧ i.size = n := by
  cases hp : P.info? t with
  | none => rw [hp] at h; cases h
  | some i =>
    rw [hp] at h
    simp only [Option.map_some, Option.some.injEq, Prod.mk.injEq] at h
    exact ⟨i, rfl, h.1, h.2⟩
theorem row_form2 {w : World} {v : Value} {vs : List Value} (h : Row1 w v vs) : ∃ a n c, v = .slice a n c := by
  obtain ⟨a, c, rfl, _⟩ := h
  exact ⟨_, _, _, rfl⟩
theorem row_form {w : World} {v : Value} {vs : List Value} (h : Row1 w v vs) : ∃ a n c, v = .slice a n c := by
  obtain ⟨a, c, rfl, _⟩ := h
  exact ⟨_, _, _, rfl⟩
theorem cut3 (l : List UInt8) (p q : Nat) (h : p ≤ q) : [l.take p, (l.drop p).take (q - p), l.drop q].flatten = l := by
  have e : l.drop q = (l.drop p).drop (q - p) := by rw [List.drop_drop]; congr 1; omega
  simp only [List.flatten_cons, List.flatten_nil, List.append_nil]
  rw [e, List.take_append_drop, List.take_append_drop]
theorem cut4 (l : List UInt8) (q : Nat) : [[], l.take q, [], l.drop q].flatten = l := by
  simp

end Go.Proofs.YtcadfccijeodbaaDoor

/- The hash of one list, of three, of four, laid in a slice that was just made. Each theorem names its own conditions. -/
namespace Go.Proofs.YtcadfccijeodbaaDoor
open Go.RowKit
set_option linter.unusedVariables false
set_option linter.unusedSimpArgs false

/-- The hash of one list, laid in a slice that was just made. -/
theorem Sum_one (x : Value) (l : List UInt8) (w : World) (hx : Row1 w x (l.map bval)) (hl : l.length ≤ 1099511627776) (hG : GlobR w) :
    Calls Tryd.prog 18 #[.slice (some ⟨w.heap.size, 0, none⟩) 1 1] (w.alloc (.cells #[x] 34)) fun e w' => e = .returned (.agg ((sha256 l).map bval).toArray) ∧ Ext w w' := by
  have he := Ext.alloc w (.cells #[x] 34)
  have h := Sum_num _ [l] _ (rowB1 (Row1.made w #[x] 34 _ 1 [x] rfl rfl rfl (by unfold maxLen; omega)) (hx.below he)) (by simpa using hl) (hG.ext he)
  refine h.mono fun e w' hh => ⟨?_, he.trans hh.2⟩
  rw [hh.1]
  simp

/-- The hash of three lists, laid in a slice that was just made. -/
theorem Sum_three (x y z : Value) (l m n o : List UInt8) (w : World) (hx : Row1 w x (l.map bval)) (hy : Row1 w y (m.map bval)) (hz : Row1 w z (n.map bval)) (ho : [l, m, n].flatten = o) (hl : o.length ≤ 1099511627776) (hG : GlobR w) :
    Calls Tryd.prog 18 #[.slice (some ⟨w.heap.size, 0, none⟩) 3 3] (w.alloc (.cells #[x, y, z] 34)) fun e w' => e = .returned (.agg ((sha256 o).map bval).toArray) ∧ Ext w w' := by
  subst ho
  have he := Ext.alloc w (.cells #[x, y, z] 34)
  exact (Sum_num _ [l, m, n] _ (rowB3 (Row1.made w #[x, y, z] 34 _ 3 [x, y, z] rfl rfl rfl (by unfold maxLen; omega)) (hx.below he) (hy.below he) (hz.below he)) hl (hG.ext he)).mono fun e w' hh => ⟨hh.1, he.trans hh.2⟩
/-- The hash of four lists, laid in a slice that was just made. -/
theorem Sum_four (x y z u : Value) (l m n k o : List UInt8) (w : World) (hx : Row1 w x (l.map bval)) (hy : Row1 w y (m.map bval)) (hz : Row1 w z (n.map bval)) (hu : Row1 w u (k.map bval)) (ho : [l, m, n, k].flatten = o) (hl : o.length ≤ 1099511627776) (hG : GlobR w) :
    Calls Tryd.prog 18 #[.slice (some ⟨w.heap.size, 0, none⟩) 4 4] (w.alloc (.cells #[x, y, z, u] 34)) fun e w' => e = .returned (.agg ((sha256 o).map bval).toArray) ∧ Ext w w' := by
  subst ho
  have he := Ext.alloc w (.cells #[x, y, z, u] 34)
  exact (Sum_num _ [l, m, n, k] _ (rowB4 (Row1.made w #[x, y, z, u] 34 _ 4 [x, y, z, u] rfl rfl rfl (by unfold maxLen; omega)) (hx.below he) (hy.below he) (hz.below he) (hu.below he)) hl (hG.ext he)).mono fun e w' hh => ⟨hh.1, he.trans hh.2⟩

end Go.Proofs.YtcadfccijeodbaaDoor

/- The walks of the program's own rootOf, joined, Root. Laid by wip/gen/gmerd.py. Each theorem names its own conditions. -/
namespace Go.Proofs.YtcadfccijeodbaaDoor
open Go.RowKit
set_option linter.unusedVariables false
set_option linter.unusedSimpArgs false

theorem mer_sum (r : List UInt8) (ls : List (List UInt8)) (v : Value) (w : World) (hq : sha256 ls.flatten = r) (hv : RowB w v ls) (hb : ls.flatten.length ≤ 1099511627776) (hG : GlobR w) :
    Calls Tryd.prog 18 #[v] w fun e w' => e = .returned (.agg (r.map bval).toArray) ∧ Below w.heap.size w w' := by
  subst hq
  exact Sum_num v ls w hv hb hG
theorem rowB_nil (w : World) : RowB w (.slice none 0 0) [] := ⟨[], Row1.nil w, rfl, fun i x l hx _ => by simp at hx⟩
theorem mer_sum2 (v : Value) (b r : List UInt8) (w : World) (hq : sha256 (0 :: b) = r) (hv : Row1 w v (b.map bval)) (hb : b.length ≤ 1000000) (hG : GlobR w) :
    Calls Tryd.prog 18 #[.slice (some ⟨w.heap.size + 1, 0, none⟩) 2 2] ((w.alloc (.cells #[.int .u8 0] 5)).alloc (.cells #[.slice (some ⟨w.heap.size, 0, none⟩) 1 1, v] 34)) fun e w' => e = .returned (.agg (r.map bval).toArray) ∧ Ext w w' := by
  have e1 := Ext.alloc w (.cells #[.int .u8 0] 5)
  have r1 : Row1 (w.alloc (.cells #[.int .u8 0] 5)) (.slice (some ⟨w.heap.size, 0, none⟩) 1 1) (([0] : List UInt8).map bval) := Row1.made w _ _ _ 1 _ rfl rfl rfl (by unfold maxLen; omega)
  have hs : (w.alloc (.cells #[.int .u8 0] 5)).heap.size = w.heap.size + 1 := by simp
  have e2 := Ext.alloc (w.alloc (.cells #[.int .u8 0] 5)) (.cells #[.slice (some ⟨w.heap.size, 0, none⟩) 1 1, v] 34)
  have e3 := e1.trans e2
  have h := mer_sum r [[0], b] (.slice (some ⟨w.heap.size + 1, 0, none⟩) 2 2) _ (by simpa using hq) (rowB2 (Row1.made _ #[.slice (some ⟨w.heap.size, 0, none⟩) 1 1, v] 34 _ 2 _ hs rfl rfl (by unfold maxLen; omega)) (r1.below e2) (hv.below e3)) (by simp; omega) (hG.ext e3)
  exact h.mono fun e w' hh => ⟨hh.1, e3.trans hh.2⟩

set_option maxRecDepth 100000 in
set_option maxHeartbeats 8000000 in
theorem mrootOf_any (b : List UInt8) (v : Value) (w : World) (hbl : b.length ≤ 1000000) (hv : Row1 w v (b.map bval)) (hG : GlobR w) :
    Calls Tryd.prog 19 #[v] w fun e w' => e = .returned (.agg ((sha256 (0 :: b)).map bval).toArray) ∧ Below w.heap.size w w' := by
  obtain ⟨ab, cb, hmv, _⟩ := id hv
  rw [List.length_map] at hmv
  subst hmv
  obtain ⟨r, hr⟩ : ∃ r, r = sha256 (0 :: b) := ⟨_, rfl⟩
  rw [← hr]
  have HRL : Hid (r.length = 32) := Lib.hid (by rw [hr]; exact sha256_length _)
  have HIR := Lib.hid (num_size HRL.out)
  have HLR : Hid ((r.map bval).length = (ints .u8 (List.replicate 32 0)).length) := Lib.hid (by rw [List.length_map, HRL.out, ints_length, List.length_replicate])
  have HB0 := Lib.hid (Blk.made w (ints .u8 (List.replicate 32 0)) 26)
  have HE0 := Lib.hid (Ext.alloc w (.cells (ints .u8 (List.replicate 32 0)).toArray 26))
  have HC := Lib.hid (fun (wx : World) (hx : Ext w wx) => mer_sum2 (.slice ab b.length cb) b r wx hr.symm (hv.below hx) hbl (hG.ext hx))
  generalize b.length = nb at *
  clear hv hG hbl hr
  go_enter Tryd.func19, Tryd.ntmps19
  go_upto_region 1 with (fail)
  change Code.wp _ _ _ _ (w.alloc (.cells (ints .u8 (List.replicate 32 0)).toArray 26))
  generalize w.alloc (.cells (ints .u8 (List.replicate 32 0)).toArray 26) = wa at *
  obtain ⟨A, hA⟩ : ∃ A, A = w.heap.size := ⟨_, rfl⟩
  have HLA : Hid (w.heap.size ≤ A) := Lib.hid (by omega)
  rw [← hA] at HB0 ⊢
  clear hA
  go_wp2_with fail
  refine (HC.out wa HE0.out).mono ?_
  rintro e w1 ⟨rfl, hb⟩
  have HB1 := Lib.hid (ext_blk HB0.out hb)
  have HE1 := Lib.hid (HE0.out.trans hb)
  clear hb
  go_wp2_with (refine wpList_store_blk rfl _ _ _ rfl A (r.map bval) rfl rfl _ _ HB1.out HLR.out HIR.out (bval_one _) ?_; intro w10 hb10 hg10)
  refine bodyPost_ret (result_blk rfl _ A _ _ _ _ rfl hb10 Tryd.underlying26 HIR.out) rfl ⟨rfl, ext_grown HE1.out hg10 HLA.out⟩

set_option maxRecDepth 100000 in
set_option maxHeartbeats 8000000 in
theorem mjoined_any (la lb : List UInt8) (w : World) (ha : la.length = 32) (hb : lb.length = 32) (hG : GlobR w) :
    Calls Tryd.prog 21 #[.agg (la.map bval).toArray, .agg (lb.map bval).toArray] w fun e w' => e = .returned (.agg ((sha256 (1 :: (la ++ lb))).map bval).toArray) ∧ Below w.heap.size w w' := by
  obtain ⟨i0, hi, hz0, hz1, hz2⟩ := info_parts Tryd.info5
  obtain ⟨iq, hq0, hq1, hq2⟩ := info_two (P := Tryd.prog) (t := 34) (z := .slice none 0 0) (n := 1) (by kernel_rfl)
  have HI0 := Lib.hid hi
  have HZ0 := Lib.hid hz0
  have HZ1 := Lib.hid hz1
  have HZ2 := Lib.hid hz2
  have HQ0 := Lib.hid hq0
  have HQ1 := Lib.hid hq1
  have HQ2 := Lib.hid hq2
  have HG := Lib.hid hG
  have HaL := Lib.hid ha
  have HbL := Lib.hid hb
  have HIa := Lib.hid (num_size ha)
  have HIb := Lib.hid (num_size hb)
  obtain ⟨r, hr⟩ : ∃ r, r = sha256 (1 :: (la ++ lb)) := ⟨_, rfl⟩
  rw [← hr]
  have HQ := Lib.hid hr.symm
  have HRL : Hid (r.length = 32) := Lib.hid (by rw [hr]; exact sha256_length _)
  have HB := Lib.hid (boxes3 w (la.map bval) (lb.map bval) (ints .u8 (List.replicate 32 0)) 26 26 26)
  clear ha hb hG hi hz0 hz1 hz2 hq0 hq1 hq2 hr
  go_enter Tryd.func21, Tryd.ntmps21
  go_upto_region 1 with (fail)
  obtain ⟨H1, H2, H3, HE⟩ := HB.out
  change Code.wp _ _ _ _ (((w.alloc (.cells (la.map bval).toArray 26)).alloc (.cells (lb.map bval).toArray 26)).alloc (.cells (ints .u8 (List.replicate 32 0)).toArray 26))
  generalize ((w.alloc (.cells (la.map bval).toArray 26)).alloc (.cells (lb.map bval).toArray 26)).alloc (.cells (ints .u8 (List.replicate 32 0)).toArray 26) = wb at *
  have HE : Hid (Ext w wb) := Lib.hid HE
  obtain ⟨C, hC⟩ : ∃ C, C = w.heap.size + 1 + 1 := ⟨_, rfl⟩
  have HLC : Hid (w.heap.size ≤ C) := Lib.hid (by omega)
  rw [← hC] at H3 ⊢
  obtain ⟨B, hB⟩ : ∃ B, B = w.heap.size + 1 := ⟨_, rfl⟩
  rw [← hB] at H2 ⊢
  obtain ⟨A, hA⟩ : ∃ A, A = w.heap.size := ⟨_, rfl⟩
  rw [← hA] at H1 ⊢
  have H1 := Lib.hid H1
  have H2 := Lib.hid H2
  have H3 := Lib.hid H3
  clear hA hB hC HB
  have B0 : Ext wb wb.drew := Ext.drew _
  refine wp_region_held_drew (S := fun w' => Far (C) wb w') (by kernel_rfl) (fars_ext B0) (fun hHeld => ?_)
  refine wpAnyH_take (i := 1) (v := .slice (some ⟨A, 0, none⟩) 32 32) rfl (by kernel_rfl) (by kernel_rfl) (by kernel_rfl) (fun _ _ _ h => h) (yi_slice _ _ _ _ (.pointer (some ⟨A, 0, none⟩)) (.slice (some ⟨A, 0, none⟩) 32 32) none none (by rfl) rfl rfl rfl rfl (fun w => cut_whole Tryd.underlying26 Tryd.sizeOf5 (by omega) _ w)) hHeld ?_
  simp only [Act.put, List.getElem_toArray, List.getElem_cons_zero, List.getElem_cons_succ, List.setIfInBounds_toArray, List.set_cons_zero, List.set_cons_succ]
  refine wpAnyH_take (i := 2) (v := .slice (some ⟨B, 0, none⟩) 32 32) rfl (by kernel_rfl) (by kernel_rfl) (by kernel_rfl) (fun _ _ _ h => h) (yi_slice _ _ _ _ (.pointer (some ⟨B, 0, none⟩)) (.slice (some ⟨B, 0, none⟩) 32 32) none none (by rfl) rfl rfl rfl rfl (fun w => cut_whole Tryd.underlying26 Tryd.sizeOf5 (by omega) _ w)) hHeld ?_
  simp only [Act.put, List.getElem_toArray, List.getElem_cons_zero, List.getElem_cons_succ, List.setIfInBounds_toArray, List.set_cons_zero, List.set_cons_succ]
  refine wpAnyH_ready (rs := [0]) (by kernel_rfl) (by simp) (AllReadyH.cons rfl (fun K hK => ?_) AllReadyH.nil)
  refine step_wp (by rfl) ?_
  refine wp_buildSlice_d (some 5) _ _ _ _ rfl rfl #[.int .u8 1] i0 (.int .u8 0) Tryd.underlying34 HI0.out HZ0.out (by rw [HZ1.out]; decide) (by rw [HZ1.out]; decide) (by rw [HZ1.out]; kernel_rfl) ?_
  obtain ⟨m1, hm1⟩ : ∃ wNew, wNew = World.alloc wb.drew (.cells #[.int .u8 1] 5) := ⟨_, rfl⟩
  rw [← hm1]
  have b1 : Ext wb.drew m1 := by rw [hm1]; exact Ext.alloc _ _
  obtain ⟨g1, hg1⟩ : ∃ gNew, gNew = (wb.drew).heap.size := ⟨_, rfl⟩
  rw [← hg1]
  have r1 : Row1 m1 (.slice (some ⟨g1, 0, none⟩) 1 1) (([1] : List UInt8).map bval) := by rw [hm1, hg1]; exact Row1.made _ _ _ _ _ _ rfl rfl rfl (by unfold maxLen; omega)
  have o1 : World.ownsRow m1 (wb).heap.size 5 1 (.slice (some ⟨g1, 0, none⟩) 1 1) 1 (([1] : List UInt8).map bval) := by rw [hm1, hg1]; exact own_made _ _ _ _ _ _ rfl rfl (by unfold maxLen; omega) B0.size
  clear hm1 hg1
  have N1 : Ext wb m1 := B0.trans b1
  refine hK.out _ _ (fars_ext N1) (fun hHeld => ?_)
  clear hK K
  try simp only [Act.put, List.getElem_toArray, List.getElem_cons_zero, List.getElem_cons_succ, List.setIfInBounds_toArray, List.set_cons_zero, List.set_cons_succ]
  refine wpAnyH_ready (rs := [3]) (by kernel_rfl) (by simp) (AllReadyH.cons rfl (fun K hK => ?_) AllReadyH.nil)
  refine step_wp (by rfl) ?_
  refine wp_buildSlice_d (some 8) _ _ _ _ rfl rfl #[.slice (some ⟨g1, 0, none⟩) 1 1, .slice (some ⟨A, 0, none⟩) 32 32, .slice (some ⟨B, 0, none⟩) 32 32] iq (.slice none 0 0) Tryd.underlying22 HQ0.out HQ1.out (by rw [HQ2.out]; decide) (by rw [HQ2.out]; decide) (by rw [HQ2.out]; kernel_rfl) ?_
  obtain ⟨m2, hm2⟩ : ∃ wNew, wNew = World.alloc m1 (.cells #[.slice (some ⟨g1, 0, none⟩) 1 1, .slice (some ⟨A, 0, none⟩) 32 32, .slice (some ⟨B, 0, none⟩) 32 32] 34) := ⟨_, rfl⟩
  rw [← hm2]
  have b2 : Ext m1 m2 := by rw [hm2]; exact Ext.alloc _ _
  obtain ⟨g2, hg2⟩ : ∃ gNew, gNew = (m1).heap.size := ⟨_, rfl⟩
  rw [← hg2]
  have r1 := r1.below b2
  have o1 := own_below o1 b2
  have r2 : Row1 m2 (.slice (some ⟨g2, 0, none⟩) 3 3) [.slice (some ⟨g1, 0, none⟩) 1 1, .slice (some ⟨A, 0, none⟩) 32 32, .slice (some ⟨B, 0, none⟩) 32 32] := by rw [hm2, hg2]; exact Row1.made _ _ _ _ _ _ rfl rfl rfl (by unfold maxLen; omega)
  clear hm2 hg2
  have N2 : Ext wb m2 := N1.trans b2
  refine hK.out _ _ (fars_ext N2) (fun hHeld => ?_)
  clear hK K
  try simp only [Act.put, List.getElem_toArray, List.getElem_cons_zero, List.getElem_cons_succ, List.setIfInBounds_toArray, List.set_cons_zero, List.set_cons_succ]
  refine wpAnyH_ready (rs := [4]) (by kernel_rfl) (by simp) (AllReadyH.cons rfl (fun K hK => ?_) AllReadyH.nil)
  go_simp
  refine (mer_sum r [[1], la, lb] _ m2 (by simpa using HQ.out) (rowB3 r2 r1 ((blk_row (n := 32) H1.out (by rw [List.length_map]; exact HaL.out) (by unfold maxLen; omega)).below N2) ((blk_row (n := 32) H2.out (by rw [List.length_map]; exact HbL.out) (by unfold maxLen; omega)).below N2)) (by have := HaL.out; have := HbL.out; simp; omega) (HG.out.ext (HE.out.trans N2))).mono ?_
  rintro e m3 ⟨rfl, b3⟩
  have r1 := r1.below b3
  have r2 := r2.below b3
  have o1 := own_below o1 b3
  have N3 : Ext wb m3 := N2.trans b3
  refine hK.out _ _ (fars_ext N3) (fun hHeld => ?_)
  clear hK K
  try simp only [Act.put, List.getElem_toArray, List.getElem_cons_zero, List.getElem_cons_succ, List.setIfInBounds_toArray, List.set_cons_zero, List.set_cons_succ]
  refine wpAnyH_ready (rs := [5]) (by kernel_rfl) (by simp) (AllReadyH.cons rfl (fun K hK => ?_) AllReadyH.nil)
  refine step_wp (by rfl) ?_
  refine wp_store_blk _ _ _ rfl (C) ((r).map bval) rfl rfl _ _ (ext_blk H3.out N3) (by rw [List.length_map, HRL.out, ints_length]; rfl) (num_size (HRL.out)) (bval_one _) ?_
  intro m4 hb4 hg4
  refine hK.out _ _ (fars_put N3 hg4) (fun hHeld => ?_)
  clear hK K
  try simp only [Act.put, List.getElem_toArray, List.getElem_cons_zero, List.getElem_cons_succ, List.setIfInBounds_toArray, List.set_cons_zero, List.set_cons_succ]
  refine wpAnyH_done (by kernel_rfl) ?_ _
  have hfin := hb4
  have hNN := ext_grown (HE.out.trans N3) hg4 HLC.out
  generalize m4 = w11 at hfin hNN ⊢
  have HIo := Lib.hid (num_size HRL.out)
  go_wp2_with fail
  refine bodyPost_ret (result_blk rfl _ C _ _ _ _ rfl hfin Tryd.underlying26 HIo.out) rfl ⟨rfl, hNN⟩

def RootSaidM (n : Nat) : Prop := ∀ (ls : List (List UInt8)) (v : Value) (w : World), ls.length = n → (∀ l ∈ ls, l.length ≤ 1000000) → ls.length ≤ 1000000 → RowB w v ls → GlobR w →
    Calls Tryd.prog 11 #[v] w fun e w' => e = .returned (.agg ((merR ls).map bval).toArray) ∧ Below w.heap.size w w'

set_option maxRecDepth 100000 in
set_option maxHeartbeats 8000000 in
theorem mRoot_step (n : Nat) (ih : ∀ k, k < n → RootSaidM k) : RootSaidM n := by
  intro ls v w hn hbd hbl hv hG
  have HBL := Lib.hid hbl
  have HIH := Lib.hid ih
  have HG := Lib.hid hG
  have HBD := Lib.hid hbd
  have HN := Lib.hid hn
  obtain ⟨a, cap, rfl, r1, r2⟩ := mer_form hv
  unfold maxLen at r2
  have HV0 := Lib.hid hv
  have HB0 := Lib.hid (Blk.made w (ints .u8 (List.replicate 32 0)) 26)
  have HE0 := Lib.hid (Ext.alloc w (.cells (ints .u8 (List.replicate 32 0)).toArray 26))
  obtain ⟨r, hr⟩ : ∃ r, r = merR ls := ⟨_, rfl⟩
  rw [← hr]
  have HMR := Lib.hid hr.symm
  have HRL : Hid (r.length = 32) := Lib.hid (by rw [hr]; exact merR_length ls)
  have HIR := Lib.hid (num_size HRL.out)
  have HLR : Hid ((r.map bval).length = (ints .u8 (List.replicate 32 0)).length) := Lib.hid (by rw [List.length_map, HRL.out, ints_length, List.length_replicate])
  have l0 : (0 : Int) ≤ (ls.length : Int) := Int.natCast_nonneg _
  clear ih hG hbd hbl hn hv hr
  go_enter Tryd.func11, Tryd.ntmps11
  go_upto_region 1 with (fail)
  change Code.wp _ _ _ _ (w.alloc (.cells (ints .u8 (List.replicate 32 0)).toArray 26))
  generalize w.alloc (.cells (ints .u8 (List.replicate 32 0)).toArray 26) = wa at *
  obtain ⟨A, hA⟩ : ∃ A, A = w.heap.size := ⟨_, rfl⟩
  have HLA : Hid (w.heap.size ≤ A) := Lib.hid (by omega)
  rw [← hA] at HB0 ⊢
  have HV := Lib.hid (HV0.out.below HE0.out)
  clear hA HV0
  by_cases h0 : ls.length = 0
  · have h0' : (ls.length : Int) = 0 := by omega
    have HQ : Hid (sha256 ([] : List (List UInt8)).flatten = r) := Lib.hid ((merR_nil h0).symm.trans HMR.out)
    go_wp2_with fail
    refine (mer_sum r [] (.slice none 0 0) wa HQ.out (rowB_nil wa) (by decide) (HG.out.ext HE0.out)).mono ?_
    rintro e w1 ⟨rfl, hb⟩
    have HB1 := Lib.hid (ext_blk HB0.out hb)
    have HE1 := Lib.hid (HE0.out.trans hb)
    clear hb
    go_wp2_with (refine wpList_store_blk rfl _ _ _ rfl A (r.map bval) rfl rfl _ _ HB1.out HLR.out HIR.out (bval_one _) ?_; intro w10 hb10 hg10)
    refine bodyPost_ret (result_blk rfl _ A _ _ _ _ rfl hb10 Tryd.underlying26 HIR.out) rfl ⟨rfl, ext_grown HE1.out hg10 HLA.out⟩
  · have h0' : ¬ (ls.length : Int) = 0 := by omega
    by_cases h1 : ls.length = 1
    · have h1' : (ls.length : Int) = 1 := by omega
      have h10 : (0 : Int) < (ls.length : Int) := by omega
      obtain ⟨b, off, rfl, hel⟩ := rowB_elem HV.out (by omega)
      obtain ⟨a2, c2, hc, hr⟩ := hel 0 (by omega)
      have HQ : Hid (sha256 (0 :: ls.getD 0 []) = r) := Lib.hid (by
        rw [← HMR.out, merR_one' h1]
        cases ls with
        | nil => simp at h1
        | cons x t => rfl)
      have HXL : Hid ((ls.getD 0 []).length ≤ 1000000) := Lib.hid (HBD.out _ (by
        rw [List.getD_eq_getElem?_getD, List.getElem?_eq_getElem (by omega)]
        exact List.getElem_mem _))
      have HC := Lib.hid (mrootOf_any (ls.getD 0 []) _ wa HXL.out hr (HG.out.ext HE0.out))
      rw [HQ.out] at HC
      generalize (ls.getD 0 []).length = nx at *
      rw [Nat.add_zero] at hc
      clear hr hel
      go_wp2_with fail
      refine HC.out.mono ?_
      rintro e w1 ⟨rfl, hb⟩
      have HB1 := Lib.hid (ext_blk HB0.out hb)
      have HE1 := Lib.hid (HE0.out.trans hb)
      clear hb
      go_wp2_with (refine wpList_store_blk rfl _ _ _ rfl A (r.map bval) rfl rfl _ _ HB1.out HLR.out HIR.out (bval_one _) ?_; intro w10 hb10 hg10)
      refine bodyPost_ret (result_blk rfl _ A _ _ _ _ rfl hb10 Tryd.underlying26 HIR.out) rfl ⟨rfl, ext_grown HE1.out hg10 HLA.out⟩
    · have h1' : ¬ (ls.length : Int) = 1 := by omega
      have h2 : 2 ≤ ls.length := by omega
      have HK1 := Lib.hid (merK_lt h2)
      have HK0 := Lib.hid (merK_pos ls.length)
      have HM := Lib.hid (merR_two h2)
      have HH := Lib.hid (fun w' => mcut_any ls.length w' h2 (by have := HBL.out; omega))
      obtain ⟨k, hk⟩ : ∃ k, k = merK ls.length := ⟨_, rfl⟩
      rw [← hk] at HK1 HK0 HM HH
      clear hk
      have k0 : (0 : Int) ≤ (k : Int) := Int.natCast_nonneg _
      obtain ⟨v1, hv1, hs1⟩ := rowB_upto Tryd.underlying22 Tryd.sizeOf34 HV.out k (by have := HK1.out; omega)
      obtain ⟨v2, hv2, hs2⟩ := rowB_cut Tryd.underlying22 Tryd.sizeOf34 HV.out k (by have := HK1.out; omega)
      obtain ⟨a1, c1, rfl, _⟩ := mer_form hv1
      obtain ⟨a2, c2, rfl, _⟩ := mer_form hv2
      have HV1 := Lib.hid hv1
      have HV2 := Lib.hid hv2
      have HS1 := Lib.hid hs1
      have HS2 := Lib.hid hs2
      have HC1 : Hid (∀ wx, Ext wa wx → Calls Tryd.prog 11 #[.slice a1 (ls.take k).length c1] wx fun e w' => e = .returned (.agg ((merR (ls.take k)).map bval).toArray) ∧ Below wx.heap.size wx w') := Lib.hid (fun wx hx => by
        have hlen : (ls.take k).length = k := by rw [List.length_take]; have := HK1.out; omega
        exact HIH.out k (by have := HK1.out; have := HN.out; omega) (ls.take k) _ wx hlen (fun l hl => HBD.out l (List.mem_of_mem_take hl)) (by rw [hlen]; have := HK1.out; have := HBL.out; omega) (HV1.out.below hx) (HG.out.ext (HE0.out.trans hx)))
      have HC2 : Hid (∀ wx, Ext wa wx → Calls Tryd.prog 11 #[.slice a2 (ls.drop k).length c2] wx fun e w' => e = .returned (.agg ((merR (ls.drop k)).map bval).toArray) ∧ Below wx.heap.size wx w') := Lib.hid (fun wx hx => by
        have hlen : (ls.drop k).length = ls.length - k := by rw [List.length_drop]
        exact HIH.out (ls.length - k) (by have := HK0.out; have := HK1.out; have := HN.out; omega) (ls.drop k) _ wx hlen (fun l hl => HBD.out l (List.mem_of_mem_drop hl)) (by rw [hlen]; have := HBL.out; omega) (HV2.out.below hx) (HG.out.ext (HE0.out.trans hx)))
      have HaL : Hid ((merR (ls.take k)).length = 32) := Lib.hid (merR_length _)
      have HbL : Hid ((merR (ls.drop k)).length = 32) := Lib.hid (merR_length _)
      generalize merR (ls.take k) = ra at *
      generalize merR (ls.drop k) = rb at *
      generalize (ls.take k).length = n1 at *
      generalize (ls.drop k).length = n2 at *
      have HRQ : Hid (sha256 (1 :: (ra ++ rb)) = r) := Lib.hid (HM.out.symm.trans HMR.out)
      have HJ := Lib.hid (fun (wx : World) (hx : Ext wa wx) => mjoined_any ra rb wx HaL.out HbL.out (HG.out.ext (HE0.out.trans hx)))
      rw [HRQ.out] at HJ
      clear hv1 hv2 HM hs1 hs2
      go_wp2_with fail
      refine (HH.out wa).mono ?_
      rintro e w' ⟨rfl, rfl⟩
      go_upto_region 7 with (fail)
      have B0 : Ext wa wa.drew := Ext.drew _
      refine wp_region_held_drew (S := fun w' => Far (A) wa w') (by kernel_rfl) (fars_ext B0) (fun hHeld => ?_)
      refine wpAnyH_take (i := 0) (v := .slice a ls.length cap) rfl (by kernel_rfl) (by kernel_rfl) (by kernel_rfl) (fun _ _ _ h => h) (yi_move _ (.slice a ls.length cap) (by rfl) rfl rfl) hHeld ?_
      simp only [Act.put, List.getElem_toArray, List.getElem_cons_zero, List.getElem_cons_succ, List.setIfInBounds_toArray, List.set_cons_zero, List.set_cons_succ]
      refine wpAnyH_take (i := 1) (v := .int .i64 (k : Int)) rfl (by kernel_rfl) (by kernel_rfl) (by kernel_rfl) (fun _ _ _ h => h) (yi_move _ (.int .i64 (k : Int)) (by rfl) rfl rfl) hHeld ?_
      simp only [Act.put, List.getElem_toArray, List.getElem_cons_zero, List.getElem_cons_succ, List.setIfInBounds_toArray, List.set_cons_zero, List.set_cons_succ]
      refine wpAnyH_take (i := 2) (v := .slice a1 n1 c1) rfl (by kernel_rfl) (by kernel_rfl) (by kernel_rfl) (fun _ _ _ h => h) (yi_slice _ _ _ _ (.slice a ls.length cap) (.slice a1 n1 c1) none (some (.int .i64 (k : Int))) (by rfl) rfl rfl rfl rfl HS1.out) hHeld ?_
      simp only [Act.put, List.getElem_toArray, List.getElem_cons_zero, List.getElem_cons_succ, List.setIfInBounds_toArray, List.set_cons_zero, List.set_cons_succ]
      refine wpAnyH_take (i := 4) (v := .slice a ls.length cap) rfl (by kernel_rfl) (by kernel_rfl) (by kernel_rfl) (fun _ _ _ h => h) (yi_move _ (.slice a ls.length cap) (by rfl) rfl rfl) hHeld ?_
      simp only [Act.put, List.getElem_toArray, List.getElem_cons_zero, List.getElem_cons_succ, List.setIfInBounds_toArray, List.set_cons_zero, List.set_cons_succ]
      refine wpAnyH_take (i := 5) (v := .int .i64 (k : Int)) rfl (by kernel_rfl) (by kernel_rfl) (by kernel_rfl) (fun _ _ _ h => h) (yi_move _ (.int .i64 (k : Int)) (by rfl) rfl rfl) hHeld ?_
      simp only [Act.put, List.getElem_toArray, List.getElem_cons_zero, List.getElem_cons_succ, List.setIfInBounds_toArray, List.set_cons_zero, List.set_cons_succ]
      refine wpAnyH_take (i := 6) (v := .slice a2 n2 c2) rfl (by kernel_rfl) (by kernel_rfl) (by kernel_rfl) (fun _ _ _ h => h) (yi_slice _ _ _ _ (.slice a ls.length cap) (.slice a2 n2 c2) (some (.int .i64 (k : Int))) none (by rfl) rfl rfl rfl rfl HS2.out) hHeld ?_
      simp only [Act.put, List.getElem_toArray, List.getElem_cons_zero, List.getElem_cons_succ, List.setIfInBounds_toArray, List.set_cons_zero, List.set_cons_succ]
      refine wpAnyH_ready (rs := [3]) (by kernel_rfl) (by simp) (AllReadyH.cons rfl (fun K hK => ?_) AllReadyH.nil)
      go_simp
      refine (HC1.out wa.drew B0).mono ?_
      rintro e m1 ⟨rfl, b1⟩
      have N1 : Ext wa m1 := B0.trans b1
      refine hK.out _ _ (fars_ext N1) (fun hHeld => ?_)
      clear hK K
      try simp only [Act.put, List.getElem_toArray, List.getElem_cons_zero, List.getElem_cons_succ, List.setIfInBounds_toArray, List.set_cons_zero, List.set_cons_succ]
      refine wpAnyH_ready (rs := [7]) (by kernel_rfl) (by simp) (AllReadyH.cons rfl (fun K hK => ?_) AllReadyH.nil)
      go_simp
      refine (HC2.out m1 N1).mono ?_
      rintro e m2 ⟨rfl, b2⟩
      have N2 : Ext wa m2 := N1.trans b2
      refine hK.out _ _ (fars_ext N2) (fun hHeld => ?_)
      clear hK K
      try simp only [Act.put, List.getElem_toArray, List.getElem_cons_zero, List.getElem_cons_succ, List.setIfInBounds_toArray, List.set_cons_zero, List.set_cons_succ]
      refine wpAnyH_ready (rs := [8]) (by kernel_rfl) (by simp) (AllReadyH.cons rfl (fun K hK => ?_) AllReadyH.nil)
      go_simp
      refine (HJ.out m2 N2).mono ?_
      rintro e m3 ⟨rfl, b3⟩
      have N3 : Ext wa m3 := N2.trans b3
      refine hK.out _ _ (fars_ext N3) (fun hHeld => ?_)
      clear hK K
      try simp only [Act.put, List.getElem_toArray, List.getElem_cons_zero, List.getElem_cons_succ, List.setIfInBounds_toArray, List.set_cons_zero, List.set_cons_succ]
      refine wpAnyH_ready (rs := [9]) (by kernel_rfl) (by simp) (AllReadyH.cons rfl (fun K hK => ?_) AllReadyH.nil)
      refine step_wp (by rfl) ?_
      refine wp_store_blk _ _ _ rfl (A) ((r).map bval) rfl rfl _ _ (ext_blk HB0.out N3) (HLR.out) (num_size (HRL.out)) (bval_one _) ?_
      intro m4 hb4 hg4
      refine hK.out _ _ (fars_put N3 hg4) (fun hHeld => ?_)
      clear hK K
      try simp only [Act.put, List.getElem_toArray, List.getElem_cons_zero, List.getElem_cons_succ, List.setIfInBounds_toArray, List.set_cons_zero, List.set_cons_succ]
      refine wpAnyH_done (by kernel_rfl) ?_ _
      have hfin := hb4
      have hNN := ext_grown (HE0.out.trans N3) hg4 HLA.out
      generalize m4 = w11 at hfin hNN ⊢
      go_wp2_with fail
      refine bodyPost_ret (result_blk rfl _ A _ _ _ _ rfl hfin Tryd.underlying26 HIR.out) rfl ⟨rfl, hNN⟩

theorem mRoot_any (ls : List (List UInt8)) (v : Value) (w : World) (hb : ∀ l ∈ ls, l.length ≤ 1000000) (hl : ls.length ≤ 1000000) (hv : RowB w v ls) (hG : GlobR w) :
    Calls Tryd.prog 11 #[v] w fun e w' => e = .returned (.agg ((merR ls).map bval).toArray) ∧ Below w.heap.size w w' :=
  Nat.strongRecOn (motive := RootSaidM) ls.length mRoot_step ls v w rfl hb hl hv hG

end Go.Proofs.YtcadfccijeodbaaDoor

/- The walk of the program's own Path. Laid by wip/gen/gmerp.py. Each theorem names its own conditions. -/
namespace Go.Proofs.YtcadfccijeodbaaDoor
open Go.RowKit
set_option linter.unusedVariables false
set_option linter.unusedSimpArgs false

/-- A list's path, of any place. -/
def merPI (ls : List (List UInt8)) (i : Int) : List (List UInt8) := if 0 ≤ i ∧ i < ls.length then merP ls i.toNat else []
theorem rowB_mid {P : Program} {w : World} {t e : TypeId} (ht : P.underlying t = some (.slice e)) (hs : ∀ w, (sizeOf e).run P w = .ok 1 w) {v : Value} {ls : List (List UInt8)} (h : RowB w v ls) (i k : Nat) (hik : i ≤ k) (hk : k ≤ ls.length) :
    ∃ v', RowB w v' ((ls.drop i).take (k - i)) ∧ ∀ w', (Instr.sliceAt t v (some (.int .i64 (i : Int))) (some (.int .i64 (k : Int))) none).run P w' = .ok v' w' := by
  obtain ⟨vals, hr, hl, hx⟩ := h
  obtain ⟨v', h1, h2⟩ := row_mid ht hs hr i k hik (by omega)
  refine ⟨v', ⟨(vals.drop i).take (k - i), h1, by simp only [List.length_take, List.length_drop, hl], fun j x l hx1 hl1 => ?_⟩, h2⟩
  rw [List.getElem?_take] at hx1 hl1
  split at hx1
  · rename_i hij
    rw [if_pos hij] at hl1
    rw [List.getElem?_drop] at hx1 hl1
    exact hx _ x l hx1 hl1
  · cases hx1
theorem take_upto {α : Type} (l : List α) (f s : Nat) : (l.drop f).take (min (f + s) l.length - f) = (l.drop f).take s := by
  by_cases h : f + s ≤ l.length
  · rw [Nat.min_eq_left h]
    congr 1
    omega
  · rw [Nat.min_eq_right (by omega), List.take_of_length_le (by simp), List.take_of_length_le (by simp; omega)]

def PathJ (ls : List (List UInt8)) (a : Option Addr) (cap i : Nat) (wb : World) (x : Act) (w : World) : Prop :=
  ∃ (j s : Nat) (v : Value), s = 2 ^ j ∧ (j = 0 ∨ s < 2 * ls.length) ∧ w.ownsRow wb.heap.size 26 32 v (merL ls i j).length ((merL ls i j).flatten.map bval) ∧ Ext wb w ∧
  ∃ u : Nat → Value, x = { tmps := #[.slice a ls.length cap, .int .i64 (i : Int), u 2, u 3, u 4, u 5, v, .int .i64 (s : Int), u 8, u 9, u 10, u 11, u 12, u 13, u 14, u 15, u 16, u 17, u 18, u 19, u 20, u 21, u 22, u 23, u 24, u 25, u 26, u 27, u 28, u 29, u 30, u 31, u 32, u 33, u 34, u 35, u 36, u 37, u 38, u 39, u 40, u 41, u 42, u 43], defers := [] }

set_option maxRecDepth 100000 in
set_option maxHeartbeats 8000000 in
theorem mPath_in (ls : List (List UInt8)) (a : Option Addr) (cap : Nat) (i : Nat) (w : World) (hbd : ∀ l ∈ ls, l.length ≤ 1000000) (hl : ls.length ≤ 1000000) (hi : i < ls.length) (hv : RowB w (.slice a ls.length cap) ls) (hG : GlobR w) :
    Calls Tryd.prog 13 #[.slice a ls.length cap, .int .i64 (i : Int)] w fun e w' => ∃ x, e = .returned (.tuple #[x, .bool true]) ∧ RowN w' x (merP ls i) ∧ Below w.heap.size w w' := by
  obtain ⟨iq, hq0, hq1, hq2, hq3⟩ := info_numz (P := Tryd.prog) (t := 26) (z := .agg (zer.map bval).toArray) (n := 32) (b := 32) (by kernel_rfl)
  have HQ0 := Lib.hid hq0
  have HQ1 := Lib.hid hq1
  have HQ2 := Lib.hid hq2
  have HQ3 := Lib.hid hq3
  have HV := Lib.hid hv
  have HG := Lib.hid hG
  have HBD := Lib.hid hbd
  have HBL := Lib.hid hl
  have HI := Lib.hid hi
  have i0 : (0 : Int) ≤ (i : Int) := Int.natCast_nonneg _
  have n0 : (0 : Int) ≤ (ls.length : Int) := Int.natCast_nonneg _
  have c1 : ¬ (i : Int) < 0 := by omega
  have c2 : ¬ (ls.length : Int) ≤ (i : Int) := by omega
  clear hbd hl hi hv hG hq0 hq1 hq2 hq3
  go_enter Tryd.func13, Tryd.ntmps13
  go_upto_region 1 with (fail)
  refine wp_scope_back0 0 (PathJ ls a cap i w) (fun a' _ => 2 * ls.length - (intOf (a'.tmps.getD 7 undef)).toNat) rfl ?_ ?_
  · intro HP
    have HP := Lib.hid HP
    go_upto_region 5 with (fail)
    go_step3
    rename_i hK
    refine hK _ _ (HP.out _ _ ?_)
    exact ⟨0, 1, .slice none 0 0, rfl, Or.inl rfl, World.ownsRow_nil _ _ _ _, Ext.refl w, fun n => ([undef, undef, _, _, _, _, undef, undef, _, _, _, _, _, _, _, _, _, _, _, _, _, _, _, _, _, _, _, _, _, _, _, _, _, _, _, _, _, _, _, _, _, _, _, _] : List Value).getD n undef, rfl⟩
  · rintro x wr ⟨j, s, v, hs, hlt, hown, hE, u, rfl⟩
    have HO := Lib.hid hown
    have HE := Lib.hid hE
    have HS := Lib.hid hs
    have HP : Hid (0 < s) := Lib.hid (by rw [hs]; exact Nat.pow_pos (by omega))
    have s0 : (0 : Int) ≤ (s : Int) := Int.natCast_nonneg _
    have s21 : (s : Int) ≤ 2000000 := by
      have h1 := HBL.out
      have h2 := HI.out
      rcases hlt with h | h
      · subst h
        rw [hs]
        show ((1 : Nat) : Int) ≤ 2000000
        omega
      · omega
    clear hown hE hlt
    by_cases hc : s < ls.length
    · have hc' : (s : Int) < (ls.length : Int) := by omega
      have HBS := Lib.hid (fun (wx : World) => mbeside_any ls.length i j wx HI.out (by rw [← hs]; exact hc) (by have := HBL.out; omega))
      rw [← hs] at HBS
      have HLB : Hid (merL ls i (j + 1) = merL ls i j ++ merB ls i j) := Lib.hid rfl
      have HMB : Hid (merB ls i j = if besF i j < ls.length then [merR ((ls.drop (besF i j)).take s)] else []) := Lib.hid (by rw [hs]; rfl)
      have HML := Lib.hid (merL_length ls i j)
      have j21 : Hid (j ≤ 20) := Lib.hid (by
        have h1 : 2 ^ j < 2 ^ 20 := by rw [← hs]; have := HBL.out; omega
        have := (Nat.pow_lt_pow_iff_right (by decide : 1 < 2)).1 h1
        omega)
      obtain ⟨s2, hs2⟩ : ∃ s2, s2 = s * 2 := ⟨_, rfl⟩
      have HS2 : Hid (s2 = 2 ^ (j + 1)) := Lib.hid (by rw [hs2, hs, Nat.pow_succ])
      obtain ⟨f, hf⟩ : ∃ f, f = besF i j := ⟨_, rfl⟩
      rw [← hf] at HBS HMB
      have HTU := Lib.hid (take_upto ls f s)
      obtain ⟨m, hm⟩ : ∃ m, m = min (f + s) ls.length := ⟨_, rfl⟩
      rw [← hm] at HBS HTU
      have f0 : (0 : Int) ≤ (f : Int) := Int.natCast_nonneg _
      have m0 : (0 : Int) ≤ (m : Int) := Int.natCast_nonneg _
      clear hs hf
      have w2 : (s : Int) * 2 = (s2 : Int) := by omega
      have HW2 := Lib.hid hs2
      clear hs2
      by_cases hfn : f < ls.length
      · have hfm : (f : Int) < (m : Int) := by have := HP.out; omega
        have HMB : Hid (merL ls i (j + 1) = merL ls i j ++ [merR ((ls.drop f).take s)]) := Lib.hid (by rw [HLB.out, HMB.out, if_pos hfn])
        obtain ⟨v2, hv2, hs2⟩ := rowB_mid Tryd.underlying22 Tryd.sizeOf34 HV.out f m (by omega) (by omega)
        rw [HTU.out] at hv2
        obtain ⟨a2, c2, rfl, _⟩ := mer_form hv2
        have HR := Lib.hid (fun (wx : World) (hx : Ext w wx) => mRoot_any ((ls.drop f).take s) _ wx (fun l hl => HBD.out l (List.mem_of_mem_drop (List.mem_of_mem_take hl))) (by have := HBL.out; rw [List.length_take, List.length_drop]; omega) (hv2.below hx) (HG.out.ext hx))
        have HRL : Hid ((merR ((ls.drop f).take s)).length = 32) := Lib.hid (merR_length _)
        generalize merR ((ls.drop f).take s) = r at *
        generalize ((ls.drop f).take s).length = n2 at *
        generalize merL ls i j = p1 at *
        clear hv2 HLB hm
        go_wp2_with fail
        refine (HBS.out _).mono ?_
        rintro e w' ⟨rfl, rfl⟩
        go_wp2_with fail
        refine (HR.out _ HE.out).mono ?_
        rintro e w1 ⟨rfl, hb⟩
        have HO := Lib.hid (own_below HO.out hb)
        have HE := Lib.hid (HE.out.trans hb)
        have HZ := Lib.hid (Blk.made w1 (r.map bval) 26)
        have HEA := Lib.hid (Ext.alloc w1 (.cells (r.map bval).toArray 26))
        have HO2 := Lib.hid (own_below HO.out HEA.out)
        have HE2 := Lib.hid (HE.out.trans HEA.out)
        clear hb HR
        go_wp2_with (first
          | (refine wpList_build_num rfl (some 39) _ _ _ r rfl rfl Tryd.underlying28 HQ0.out HQ1.out HQ2.out (by rfl) rfl HRL.out ?_)
          | (refine wpList_append_num rfl (some 40) _ _ _ rfl rfl w.heap.size _ Tryd.underlying28 HQ0.out HQ1.out HQ2.out HQ3.out (by rfl) _ _ _ rfl HO2.out w1.heap.size 1 r rfl HZ.out.range HRL.out (by have := HML.out; have := j21.out; omega) HE2.out.size ?_; intro v4 w4 ho4 hg4))
        have HE4 := Lib.hid (ext_ownS HE2.out HO2.out (Nat.le_refl _) hg4)
        have HO4 := Lib.hid ho4
        clear ho4 hg4

        go_step3
        change (0 = 0 ∧ (PathJ ls a cap i w _ _ ∧ _ < _))
        refine ⟨rfl, ⟨j + 1, s2, v4, HS2.out, Or.inr (by rw [HW2.out]; omega), own_eqS HO4.out (by rw [HMB.out, List.length_append, List.length_singleton]) (by rw [HMB.out, flat_snoc, List.map_append]), HE4.out, fun n => ([undef, undef, _, _, _, _, undef, undef, _, _, _, _, _, _, _, _, _, _, _, _, _, _, _, _, _, _, _, _, _, _, _, _, _, _, _, _, _, _, _, _, _, _, _, _] : List Value).getD n undef, rfl⟩, ?_⟩
        · show 2 * ls.length - (intOf (.int .i64 (s2 : Int))).toNat < 2 * ls.length - (intOf (.int .i64 (s : Int))).toNat
          have := HP.out
          have := HW2.out
          simp only [intOf]
          omega
      · have hfm : ¬ (f : Int) < (m : Int) := by omega
        have HMB : Hid (merL ls i (j + 1) = merL ls i j) := Lib.hid (by rw [HLB.out, HMB.out, if_neg hfn, List.append_nil])
        generalize merL ls i j = p1 at *
        clear HLB hm
        go_wp2_with fail
        refine (HBS.out _).mono ?_
        rintro e w' ⟨rfl, rfl⟩
        go_wp2_with fail

        go_step3
        change (0 = 0 ∧ (PathJ ls a cap i w _ _ ∧ _ < _))
        refine ⟨rfl, ⟨j + 1, s2, v, HS2.out, Or.inr (by rw [HW2.out]; omega), by rw [HMB.out]; exact HO.out, HE.out, fun n => ([undef, undef, _, _, _, _, undef, undef, _, _, _, _, _, _, _, _, _, _, _, _, _, _, _, _, _, _, _, _, _, _, _, _, _, _, _, _, _, _, _, _, _, _, _, _] : List Value).getD n undef, rfl⟩, ?_⟩
        · show 2 * ls.length - (intOf (.int .i64 (s2 : Int))).toNat < 2 * ls.length - (intOf (.int .i64 (s : Int))).toNat
          have := HP.out
          have := HW2.out
          simp only [intOf]
          omega
    · have hc' : ¬ (s : Int) < (ls.length : Int) := by omega
      have HM : Hid (merL ls i j = merP ls i) := Lib.hid (merL_path j ls i (by rw [← hs]; omega) HI.out)
      rw [HM.out] at HO
      have HR := Lib.hid (RowN.of_own HO.out (merP_nums ls i) rfl rfl)
      clear hs
      go_wp2_with fail
      simp only [Exit.jump]
      refine bodyPost_ret (res_twoM rfl _ _) rfl ?_
      exact ⟨v, rfl, HR.out, HE.out⟩

theorem MPath_num (ls : List (List UInt8)) (v : Value) (i : Int) (w : World) (hb : ∀ l ∈ ls, l.length ≤ 1000000) (hl : ls.length ≤ 1000000) (hi1 : -9223372036854775808 ≤ i) (hi2 : i ≤ 9223372036854775807) (hv : RowB w v ls) (hG : GlobR w) :
    Calls Tryd.prog 13 #[v, .int .i64 i] w fun e w' => ∃ x, e = .returned (.tuple #[x, .bool (decide (0 ≤ i ∧ i < ls.length))]) ∧ RowN w' x (merPI ls i) ∧ Below w.heap.size w w' := by
  obtain ⟨a, cap, rfl, _⟩ := mer_form hv
  by_cases c1 : i < 0
  · have HF : Hid (decide (0 ≤ i ∧ i < ls.length) = false ∧ merPI ls i = []) := Lib.hid ⟨decide_eq_false (by omega), if_neg (by omega)⟩
    generalize decide (0 ≤ i ∧ i < ls.length) = q at *
    clear hb hv hG
    go_enter Tryd.func13, Tryd.ntmps13
    go_upto_region 1 with (fail)
    refine wp_scope_back0 0 (fun _ _ => False) (fun _ _ => 0) rfl ?_ (fun _ _ h => h.elim)
    intro _
    go_wp2_with fail
    simp only [Exit.jump]
    refine bodyPost_ret (res_twoM rfl _ _) rfl ?_
    exact ⟨_, by rw [HF.out.1]; rfl, by rw [HF.out.2]; exact RowN.nil _, Below.refl _ _⟩
  · by_cases c2 : (ls.length : Int) ≤ i
    · have HF : Hid (decide (0 ≤ i ∧ i < ls.length) = false ∧ merPI ls i = []) := Lib.hid ⟨decide_eq_false (by omega), if_neg (by omega)⟩
      generalize decide (0 ≤ i ∧ i < ls.length) = q at *
      clear hb hv hG
      go_enter Tryd.func13, Tryd.ntmps13
      go_upto_region 1 with (fail)
      refine wp_scope_back0 0 (fun _ _ => False) (fun _ _ => 0) rfl ?_ (fun _ _ h => h.elim)
      intro _
      go_wp2_with fail
      simp only [Exit.jump]
      refine bodyPost_ret (res_twoM rfl _ _) rfl ?_
      exact ⟨_, by rw [HF.out.1]; rfl, by rw [HF.out.2]; exact RowN.nil _, Below.refl _ _⟩
    · obtain ⟨j, rfl⟩ : ∃ j : Nat, i = (j : Int) := ⟨i.toNat, by omega⟩
      have h := mPath_in ls a cap j w hb hl (by omega) hv hG
      refine h.mono ?_
      rintro e w' ⟨x, rfl, hr, hbl⟩
      exact ⟨x, by rw [decide_eq_true (by omega)], by unfold merPI; rw [if_pos (by omega)]; exact hr, hbl⟩

end Go.Proofs.YtcadfccijeodbaaDoor

/- The walk of the program's own Check. Laid by wip/gen/gmerk.py. Each theorem names its own conditions. -/
namespace Go.Proofs.YtcadfccijeodbaaDoor
open Go.RowKit
set_option linter.unusedVariables false
set_option linter.unusedSimpArgs false

theorem fars_mid {c b o : Nat} {w w' : World} {cs : List Value} (h : w.rangeAt b o cs) (hb : b < w.heap.size) (hc : c ≠ b) (hf : Far c w w') : w'.rangeAt b o cs := by
  obtain ⟨wx, h1, h2⟩ := hf
  have h3 := rng_below h h1
  rcases h2 with rfl | h2
  · exact h3
  · exact fun j v hj => (h2.cell_far ⟨b, o + j, none⟩ (Nat.lt_of_lt_of_le hb h1.size) (fun e => hc (Option.some.inj e).symm)).trans (h3 j v hj)
theorem merV_none {n i : Nat} {b : List UInt8} {p : List (List UInt8)} {j : Nat} (h : merV n i b p j = none) : ∀ d, merV n i b p (j + d) = none
  | 0 => h
  | d + 1 => by rw [← Nat.add_assoc, merV, merV_none h d]; rfl
theorem merC_none {root : List UInt8} {n i : Nat} {b : List UInt8} {p : List (List UInt8)} {j : Nat} (hi : i < n) (hn : n ≤ 1048576) (h : merV n i b p j = none) : merC root (n : Int) (i : Int) b p = false := by
  have h1 := merE_said root (m := j + n) b p (Nat.le_trans (Nat.le_of_lt Nat.lt_two_pow_self) (Nat.pow_le_pow_right (by decide) (by omega))) hi
  rw [merV_none h n] at h1
  rw [merC_in b p hi hn, ← h1]
  rfl
theorem merC_some {root h : List UInt8} {n i : Nat} {b : List UInt8} {p q : List (List UInt8)} {j : Nat} (hi : i < n) (hn : n ≤ 1048576) (hj : n ≤ 2 ^ j) (hv : merV n i b p j = some (h, q)) : merC root (n : Int) (i : Int) b p = (decide (q.length = 0) && decide (h = root)) := by
  have h1 := merE_said root (m := j) b p hj hi
  rw [hv] at h1
  rw [merC_in b p hi hn, ← h1]
  rfl
theorem merV_next {n i j : Nat} {b : List UInt8} {p q : List (List UInt8)} {h : List UInt8} (hv : merV n i b p j = some (h, q)) : merV n i b p (j + 1) = merS n i j (h, q) := by rw [merV, hv]; rfl

def CheckJ (root : List UInt8) (n i : Nat) (b : List UInt8) (p : List (List UInt8)) (bv : Value) (A : Nat) (wb : World) (x : Act) (w : World) : Prop :=
  ∃ (j s : Nat) (h : List UInt8) (q : List (List UInt8)) (v : Value) (D : Nat), s = 2 ^ j ∧ (j = 0 ∨ s < 2 * n) ∧ merV n i b p j = some (h, q) ∧ h.length = 32 ∧ RowN wb v q ∧ q.length ≤ p.length ∧ Blk w A (root.map bval) 26 ∧ Blk w D (h.map bval) 26 ∧ A ≠ D ∧ wb.heap.size ≤ D ∧ Ext wb w ∧
  ∃ u : Nat → Value, x = { tmps := #[.agg (root.map bval).toArray, .int .i64 (n : Int), .int .i64 (i : Int), bv, v, .pointer (some ⟨A, 0, none⟩), u 6, u 7, u 8, u 9, u 10, .pointer (some ⟨D, 0, none⟩), .int .i64 (s : Int), u 13, u 14, u 15, u 16, u 17, u 18, u 19, u 20, u 21, u 22, u 23, u 24, u 25, u 26, u 27, u 28, u 29, u 30, u 31, u 32, u 33, u 34, u 35, u 36, u 37, u 38, u 39, u 40, u 41, u 42, u 43, u 44, u 45, u 46, u 47, u 48, u 49, u 50, u 51, u 52, u 53, u 54, u 55, u 56, u 57, u 58, u 59, u 60, u 61, u 62, u 63, u 64, u 65, u 66, u 67, u 68, u 69, u 70, u 71, u 72, u 73], defers := [] }

set_option maxRecDepth 100000 in
set_option maxHeartbeats 8000000 in
theorem mCheck_in (root : List UInt8) (n i : Nat) (b : List UInt8) (p : List (List UInt8)) (bv pv : Value) (w : World) (hr : root.length = 32) (hi : i < n) (hn : n ≤ 1048576) (hbl : b.length ≤ 1000000) (hpl : p.length ≤ 1000000) (hb : Row1 w bv (b.map bval)) (hp : RowN w pv p) (hG : GlobR w) :
    Calls Tryd.prog 16 #[.agg (root.map bval).toArray, .int .i64 (n : Int), .int .i64 (i : Int), bv, pv] w fun e w' => e = .returned (.bool (merC root (n : Int) (i : Int) b p)) ∧ Below w.heap.size w w' := by
  have HBV := Lib.hid hb
  have HPV := Lib.hid hp
  have HPL := Lib.hid hpl
  have HBL := Lib.hid hbl
  have HG := Lib.hid hG
  have HI := Lib.hid hi
  have HN := Lib.hid hn
  have HRL0 := Lib.hid hr
  have HIR := Lib.hid (num_size hr)
  have HB0 := Lib.hid (Blk.made w (root.map bval) 26)
  have HE0 := Lib.hid (Ext.alloc w (.cells (root.map bval).toArray 26))
  have HC1 := Lib.hid (fun (wx : World) (hx : Ext w wx) => mrootOf_any b bv wx hbl (hb.below hx) (hG.ext hx))
  have HCN := Lib.hid (fun (j : Nat) (h : merV n i b p j = none) => merC_none (root := root) hi hn h)
  have HCS := Lib.hid (fun (h : List UInt8) (q : List (List UInt8)) (j : Nat) (hj : n ≤ 2 ^ j) (hv : merV n i b p j = some (h, q)) => merC_some (root := root) hi hn hj hv)
  have i0 : (0 : Int) ≤ (i : Int) := Int.natCast_nonneg _
  have n0 : (0 : Int) ≤ (n : Int) := Int.natCast_nonneg _
  have c1 : ¬ (i : Int) < 0 := by omega
  have c2 : ¬ (n : Int) ≤ (i : Int) := by omega
  have c3 : ¬ (1048576 : Int) < (n : Int) := by omega
  generalize merC root (n : Int) (i : Int) b p = ans at *
  clear hb hp hpl hbl hG hi hn hr
  go_enter Tryd.func16, Tryd.ntmps16
  go_upto_region 1 with (fail)
  change Code.wp _ _ _ _ (w.alloc (.cells (root.map bval).toArray 26))
  generalize w.alloc (.cells (root.map bval).toArray 26) = wa at *
  obtain ⟨A, hA⟩ : ∃ A, A = w.heap.size := ⟨_, rfl⟩
  have HLA : Hid (w.heap.size ≤ A) := Lib.hid (by omega)
  rw [← hA] at HB0 ⊢
  clear hA
  refine wp_scope_back0 0 (CheckJ root n i b p bv A w) (fun a' _ => 2 * n - (intOf (a'.tmps.getD 12 undef)).toNat) rfl ?_ ?_
  · intro HP
    have HP := Lib.hid HP
    go_wp2_with fail
    refine (HC1.out wa HE0.out).mono ?_
    rintro e w1 ⟨rfl, hb⟩
    obtain ⟨h, hh⟩ : ∃ h, h = sha256 (0 :: b) := ⟨_, rfl⟩
    rw [← hh]
    have HV : Hid (merV n i b p 0 = some (h, p)) := Lib.hid (by rw [hh]; rfl)
    have HHL : Hid (h.length = 32) := Lib.hid (by rw [hh]; exact sha256_length _)
    have HIH := Lib.hid (num_size HHL.out)
    have HLH : Hid ((h.map bval).length = (ints .u8 (List.replicate 32 0)).length) := Lib.hid (by rw [List.length_map, HHL.out, ints_length, List.length_replicate])
    have HA := Lib.hid (ext_blk HB0.out hb)
    have HE := Lib.hid (HE0.out.trans hb)
    have HZ := Lib.hid (Blk.made w1 (ints .u8 (List.replicate 32 0)) 26)
    have HEA := Lib.hid (Ext.alloc w1 (.cells (ints .u8 (List.replicate 32 0)).toArray 26))
    clear hb hh HC1
    go_upto_region 5 with (refine wpList_store_blk rfl _ _ _ rfl w1.heap.size (h.map bval) rfl rfl _ _ HZ.out HLH.out HIH.out (bval_one _) ?_; intro w2 hb2 hg2)
    have HX := Lib.hid (ext_grown HEA.out hg2 (Nat.le_refl _))
    have HDW : Hid (w.heap.size ≤ w1.heap.size) := Lib.hid HE.out.size
    have HAD : Hid (A ≠ w1.heap.size) := Lib.hid (by have := HA.out.lt; omega)
    have HA := Lib.hid (ext_blk HA.out HX.out)
    have HE := Lib.hid (HE.out.trans HX.out)
    have HD := Lib.hid hb2
    generalize w1.heap.size = D at *
    clear hb2 hg2 HZ HEA HX
    go_step3
    rename_i hK
    refine hK _ _ (HP.out _ _ ?_)
    exact ⟨0, 1, h, p, pv, D, rfl, Or.inl rfl, HV.out, HHL.out, HPV.out, Nat.le_refl _, HA.out, HD.out, HAD.out, HDW.out, HE.out, fun n => ([undef, undef, undef, undef, undef, undef, _, _, _, _, _, undef, undef, _, _, _, _, _, _, _, _, _, _, _, _, _, _, _, _, _, _, _, _, _, _, _, _, _, _, _, _, _, _, _, _, _, _, _, _, _, _, _, _, _, _, _, _, _, _, _, _, _, _, _, _, _, _, _, _, _, _, _, _, _] : List Value).getD n undef, rfl⟩
  · clear HC1 HB0 HE0 HPV HBV
    rintro x wr ⟨j, s, h, q, v, D, hs, hlt, hv, hhl, hq, hql, hA, hD, hAD, hDW, hE, u, rfl⟩
    have HV := Lib.hid hv
    have HHL := Lib.hid hhl
    have HQ := Lib.hid hq
    have HQL := Lib.hid hql
    have HA := Lib.hid hA
    have HD := Lib.hid hD
    have HAD := Lib.hid hAD
    have HDW := Lib.hid hDW
    have HE := Lib.hid hE
    have HIH := Lib.hid (num_size hhl)
    have HP : Hid (0 < s) := Lib.hid (by rw [hs]; exact Nat.pow_pos (by omega))
    have s0 : (0 : Int) ≤ (s : Int) := Int.natCast_nonneg _
    have s21 : (s : Int) ≤ 2097152 := by
      have h1 := HN.out
      rcases hlt with h | h
      · subst h
        rw [hs]
        show ((1 : Nat) : Int) ≤ 2097152
        omega
      · omega
    obtain ⟨aq, cq, rfl, _⟩ := hq.form
    have q0 : (0 : Int) ≤ (q.length : Int) := Int.natCast_nonneg _
    clear hv hhl hq hql hA hD hAD hDW hE hlt
    by_cases hc : s < n
    · have hc' : (s : Int) < (n : Int) := by omega
      have HBS := Lib.hid (fun (wx : World) => mbeside_any n i j wx HI.out (by rw [← hs]; exact hc) HN.out)
      rw [← hs] at HBS
      have HVN := Lib.hid (merV_next HV.out)
      obtain ⟨s2, hs2⟩ : ∃ s2, s2 = s * 2 := ⟨_, rfl⟩
      have HS2 : Hid (s2 = 2 ^ (j + 1)) := Lib.hid (by rw [hs2, hs, Nat.pow_succ])
      obtain ⟨f, hf⟩ : ∃ f, f = besF i j := ⟨_, rfl⟩
      have HMS : Hid (merV n i b p (j + 1) = if f < n then (if q.length = 0 then none else some (sha256 (1 :: (if i < f then h ++ q.headD [] else q.headD [] ++ h)), q.drop 1)) else some (h, q)) := Lib.hid (by rw [HVN.out, hf]; rfl)
      rw [← hf] at HBS
      obtain ⟨m, hm⟩ : ∃ m, m = min (f + s) n := ⟨_, rfl⟩
      rw [← hm] at HBS
      have f0 : (0 : Int) ≤ (f : Int) := Int.natCast_nonneg _
      have m0 : (0 : Int) ≤ (m : Int) := Int.natCast_nonneg _
      have w2 : (s : Int) * 2 = (s2 : Int) := by omega
      have HW2 := Lib.hid hs2
      clear hs hf hs2 HVN
      by_cases hfn : f < n
      · have hfm : ¬ (m : Int) ≤ (f : Int) := by have := HP.out; omega
        clear hm
        by_cases hz : q.length = 0
        · have hz' : (q.length : Int) = 0 := by omega
          have HF : Hid (ans = false) := Lib.hid (HCN.out (j + 1) (by rw [HMS.out, if_pos hfn, if_pos hz]))
          clear HMS HCN HCS
          go_wp2_with fail
          refine (HBS.out _).mono ?_
          rintro e w' ⟨rfl, rfl⟩
          go_wp2_with fail
          simp only [Exit.jump]
          go_ret
          exact ⟨by rw [HF.out]; rfl, HE.out⟩
        · have hz' : ¬ (q.length : Int) = 0 := by omega
          have hz1 : (0 : Int) < (q.length : Int) := by omega
          obtain ⟨b1, o1, rfl, hb1, he1⟩ := HQ.out.elem (by omega)
          have HB1 := Lib.hid hb1
          have hel := rng_below (he1 0 (by omega)) HE.out
          rw [Nat.zero_mul, Nat.add_zero] at hel
          have HEL := Lib.hid hel
          have HYL : Hid ((q.getD 0 []).length = 32) := Lib.hid (Nums.getD HQ.out.nums (by omega))
          have HYE : Hid (q.headD [] = q.getD 0 []) := Lib.hid (by cases q <;> rfl)
          obtain ⟨v2, hv2, hsq⟩ := HQ.out.cut Tryd.underlying28 Tryd.sizeOf26 1 (by omega)
          obtain ⟨aq2, cq2, rfl, _⟩ := hv2.form
          have HQ2 := Lib.hid hv2
          have HSQ := Lib.hid hsq
          obtain ⟨nq2, hnq2⟩ : ∃ m, m = (q.drop 1).length := ⟨_, rfl⟩
          rw [← hnq2] at HQ2 HSQ
          generalize q.getD 0 [] = y at *
          have HIY := Lib.hid (num_size HYL.out)
          clear hb1 he1 hel hv2 hsq hnq2
          by_cases hfi : i < f
          · have hfi' : (i : Int) < (f : Int) := by omega
            have HJ := Lib.hid (fun (wx : World) (hx : Ext wr wx) => mjoined_any h y wx HHL.out HYL.out (HG.out.ext (HE.out.trans hx)))
            have HV2 : Hid (merV n i b p (j + 1) = some (sha256 (1 :: (h ++ y)), q.drop 1)) := Lib.hid (by rw [HMS.out, if_pos hfn, if_neg hz, if_pos hfi, HYE.out])
            have HRL : Hid ((sha256 (1 :: (h ++ y))).length = 32) := Lib.hid (sha256_length _)
            generalize sha256 (1 :: (h ++ y)) = r at *
            clear HMS HCN HCS
            go_wp2_with fail
            refine (HBS.out _).mono ?_
            rintro e w' ⟨rfl, rfl⟩
            go_upto_region 12 with (fail)
            have B0 : Ext wr wr.drew := Ext.drew _
            refine wp_region_held_drew (S := fun w' => Far (D) wr w') (by kernel_rfl) (fars_ext B0) (fun hHeld => ?_)
            refine wpAnyH_take (i := 1) (v := .slice (some ⟨b1, o1, none⟩) q.length cq) rfl (by kernel_rfl) (by kernel_rfl) (by kernel_rfl) (fun _ _ _ h => h) (yi_move _ (.slice (some ⟨b1, o1, none⟩) q.length cq) (by rfl) rfl rfl) hHeld ?_
            simp only [Act.put, List.getElem_toArray, List.getElem_cons_zero, List.getElem_cons_succ, List.setIfInBounds_toArray, List.set_cons_zero, List.set_cons_succ]
            refine wpAnyH_take (i := 2) (v := .pointer (some ⟨b1, o1, none⟩)) rfl (by kernel_rfl) (by kernel_rfl) (by kernel_rfl) (fun _ _ _ h => h) (yi_val (.pointer (some ⟨b1, o1, none⟩)) (by rfl) (fun w _ => by go_simp)) hHeld ?_
            simp only [Act.put, List.getElem_toArray, List.getElem_cons_zero, List.getElem_cons_succ, List.setIfInBounds_toArray, List.set_cons_zero, List.set_cons_succ]
            refine wpAnyH_take (i := 3) (v := .agg ((y).map bval).toArray) rfl (by kernel_rfl) (by kernel_rfl) (by kernel_rfl) (fun _ _ _ h => h) (yieldsIf_load_mid (by rfl) _ _ rfl b1 o1 rfl _ _ (fun w h => fars_mid HEL.out (by have := HB1.out; have := HE.out.size; omega) (by have := HB1.out; have := HDW.out; omega) h) Tryd.underlying26 rfl HIY.out) hHeld ?_
            simp only [Act.put, List.getElem_toArray, List.getElem_cons_zero, List.getElem_cons_succ, List.setIfInBounds_toArray, List.set_cons_zero, List.set_cons_succ]
            refine wpAnyH_take (i := 5) (v := .slice (some ⟨b1, o1, none⟩) q.length cq) rfl (by kernel_rfl) (by kernel_rfl) (by kernel_rfl) (fun _ _ _ h => h) (yi_move _ (.slice (some ⟨b1, o1, none⟩) q.length cq) (by rfl) rfl rfl) hHeld ?_
            simp only [Act.put, List.getElem_toArray, List.getElem_cons_zero, List.getElem_cons_succ, List.setIfInBounds_toArray, List.set_cons_zero, List.set_cons_succ]
            refine wpAnyH_take (i := 6) (v := .slice aq2 nq2 cq2) rfl (by kernel_rfl) (by kernel_rfl) (by kernel_rfl) (fun _ _ _ h => h) (yi_slice _ _ _ _ (.slice (some ⟨b1, o1, none⟩) q.length cq) (.slice aq2 nq2 cq2) (some (.int .i64 1)) none (by rfl) rfl rfl rfl rfl HSQ.out) hHeld ?_
            simp only [Act.put, List.getElem_toArray, List.getElem_cons_zero, List.getElem_cons_succ, List.setIfInBounds_toArray, List.set_cons_zero, List.set_cons_succ]
            refine wpAnyH_ready (rs := [0]) (by kernel_rfl) (by simp) (AllReadyH.cons rfl (fun K hK => ?_) AllReadyH.nil)
            refine step_wp (by rfl) ?_
            refine wp_load_mid _ _ rfl D 0 rfl _ _ (ext_blk HD.out B0).range Tryd.underlying26 rfl HIH.out ?_
            refine hK.out _ _ (fars_ext B0) (fun hHeld => ?_)
            clear hK K
            try simp only [Act.put, List.getElem_toArray, List.getElem_cons_zero, List.getElem_cons_succ, List.setIfInBounds_toArray, List.set_cons_zero, List.set_cons_succ]
            refine wpAnyH_ready (rs := [4]) (by kernel_rfl) (by simp) (AllReadyH.cons rfl (fun K hK => ?_) AllReadyH.nil)
            go_simp
            refine (HJ.out wr.drew B0).mono ?_
            rintro e m1 ⟨rfl, b1⟩
            have N1 : Ext wr m1 := B0.trans b1
            refine hK.out _ _ (fars_ext N1) (fun hHeld => ?_)
            clear hK K
            try simp only [Act.put, List.getElem_toArray, List.getElem_cons_zero, List.getElem_cons_succ, List.setIfInBounds_toArray, List.set_cons_zero, List.set_cons_succ]
            refine wpAnyH_ready (rs := [7]) (by kernel_rfl) (by simp) (AllReadyH.cons rfl (fun K hK => ?_) AllReadyH.nil)
            refine step_wp (by rfl) ?_
            refine wp_store_blk _ _ _ rfl (D) ((r).map bval) rfl rfl _ _ (ext_blk HD.out N1) (by rw [List.length_map, List.length_map, HRL.out, HHL.out]) (num_size (HRL.out)) (bval_one _) ?_
            intro m2 hb2 hg2
            refine hK.out _ _ (fars_put N1 hg2) (fun hHeld => ?_)
            clear hK K
            try simp only [Act.put, List.getElem_toArray, List.getElem_cons_zero, List.getElem_cons_succ, List.setIfInBounds_toArray, List.set_cons_zero, List.set_cons_succ]
            refine wpAnyH_ready (rs := [8]) (by kernel_rfl) (by simp) (AllReadyH.cons rfl (fun K hK => ?_) AllReadyH.nil)
            go_simp
            refine hK.out _ _ (fars_put N1 hg2) (fun hHeld => ?_)
            clear hK K
            try simp only [Act.put, List.getElem_toArray, List.getElem_cons_zero, List.getElem_cons_succ, List.setIfInBounds_toArray, List.set_cons_zero, List.set_cons_succ]
            refine wpAnyH_done (by kernel_rfl) ?_ _
            have HD9 := Lib.hid hb2
            have HE9 := Lib.hid (ext_grown (HE.out.trans N1) hg2 HDW.out)
            have HA9 := Lib.hid ((ext_blk HA.out N1).grown hg2 (by simpa using HAD.out.symm))
            generalize m2 = w9 at HD9 HE9 HA9 ⊢
            go_wp2_with fail
            go_step3
            change (0 = 0 ∧ (CheckJ root n i b p bv A w _ _ ∧ _ < _))
            refine ⟨rfl, ⟨j + 1, s2, r, q.drop 1, .slice aq2 nq2 cq2, D, HS2.out, Or.inr (by rw [HW2.out]; omega), HV2.out, HRL.out, HQ2.out, by have := HQL.out; rw [List.length_drop]; omega, HA9.out, HD9.out, HAD.out, HDW.out, HE9.out, fun n => ([undef, undef, undef, undef, undef, undef, _, _, _, _, _, undef, undef, _, _, _, _, _, _, _, _, _, _, _, _, _, _, _, _, _, _, _, _, _, _, _, _, _, _, _, _, _, _, _, _, _, _, _, _, _, _, _, _, _, _, _, _, _, _, _, _, _, _, _, _, _, _, _, _, _, _, _, _, _] : List Value).getD n undef, rfl⟩, ?_⟩
            show 2 * n - (intOf (.int .i64 (s2 : Int))).toNat < 2 * n - (intOf (.int .i64 (s : Int))).toNat
            have := HP.out
            have := HW2.out
            simp only [intOf]
            omega
          · have hfi' : ¬ (i : Int) < (f : Int) := by omega
            have HJ := Lib.hid (fun (wx : World) (hx : Ext wr wx) => mjoined_any y h wx HYL.out HHL.out (HG.out.ext (HE.out.trans hx)))
            have HV2 : Hid (merV n i b p (j + 1) = some (sha256 (1 :: (y ++ h)), q.drop 1)) := Lib.hid (by rw [HMS.out, if_pos hfn, if_neg hz, if_neg hfi, HYE.out])
            have HRL : Hid ((sha256 (1 :: (y ++ h))).length = 32) := Lib.hid (sha256_length _)
            generalize sha256 (1 :: (y ++ h)) = r at *
            clear HMS HCN HCS
            go_wp2_with fail
            refine (HBS.out _).mono ?_
            rintro e w' ⟨rfl, rfl⟩
            go_upto_region 7 with (fail)
            have B0 : Ext wr wr.drew := Ext.drew _
            refine wp_region_held_drew (S := fun w' => Far (D) wr w') (by kernel_rfl) (fars_ext B0) (fun hHeld => ?_)
            refine wpAnyH_take (i := 0) (v := .slice (some ⟨b1, o1, none⟩) q.length cq) rfl (by kernel_rfl) (by kernel_rfl) (by kernel_rfl) (fun _ _ _ h => h) (yi_move _ (.slice (some ⟨b1, o1, none⟩) q.length cq) (by rfl) rfl rfl) hHeld ?_
            simp only [Act.put, List.getElem_toArray, List.getElem_cons_zero, List.getElem_cons_succ, List.setIfInBounds_toArray, List.set_cons_zero, List.set_cons_succ]
            refine wpAnyH_take (i := 1) (v := .pointer (some ⟨b1, o1, none⟩)) rfl (by kernel_rfl) (by kernel_rfl) (by kernel_rfl) (fun _ _ _ h => h) (yi_val (.pointer (some ⟨b1, o1, none⟩)) (by rfl) (fun w _ => by go_simp)) hHeld ?_
            simp only [Act.put, List.getElem_toArray, List.getElem_cons_zero, List.getElem_cons_succ, List.setIfInBounds_toArray, List.set_cons_zero, List.set_cons_succ]
            refine wpAnyH_take (i := 2) (v := .agg ((y).map bval).toArray) rfl (by kernel_rfl) (by kernel_rfl) (by kernel_rfl) (fun _ _ _ h => h) (yieldsIf_load_mid (by rfl) _ _ rfl b1 o1 rfl _ _ (fun w h => fars_mid HEL.out (by have := HB1.out; have := HE.out.size; omega) (by have := HB1.out; have := HDW.out; omega) h) Tryd.underlying26 rfl HIY.out) hHeld ?_
            simp only [Act.put, List.getElem_toArray, List.getElem_cons_zero, List.getElem_cons_succ, List.setIfInBounds_toArray, List.set_cons_zero, List.set_cons_succ]
            refine wpAnyH_take (i := 5) (v := .slice (some ⟨b1, o1, none⟩) q.length cq) rfl (by kernel_rfl) (by kernel_rfl) (by kernel_rfl) (fun _ _ _ h => h) (yi_move _ (.slice (some ⟨b1, o1, none⟩) q.length cq) (by rfl) rfl rfl) hHeld ?_
            simp only [Act.put, List.getElem_toArray, List.getElem_cons_zero, List.getElem_cons_succ, List.setIfInBounds_toArray, List.set_cons_zero, List.set_cons_succ]
            refine wpAnyH_take (i := 6) (v := .slice aq2 nq2 cq2) rfl (by kernel_rfl) (by kernel_rfl) (by kernel_rfl) (fun _ _ _ h => h) (yi_slice _ _ _ _ (.slice (some ⟨b1, o1, none⟩) q.length cq) (.slice aq2 nq2 cq2) (some (.int .i64 1)) none (by rfl) rfl rfl rfl rfl HSQ.out) hHeld ?_
            simp only [Act.put, List.getElem_toArray, List.getElem_cons_zero, List.getElem_cons_succ, List.setIfInBounds_toArray, List.set_cons_zero, List.set_cons_succ]
            refine wpAnyH_ready (rs := [3]) (by kernel_rfl) (by simp) (AllReadyH.cons rfl (fun K hK => ?_) AllReadyH.nil)
            refine step_wp (by rfl) ?_
            refine wp_load_mid _ _ rfl D 0 rfl _ _ (ext_blk HD.out B0).range Tryd.underlying26 rfl HIH.out ?_
            refine hK.out _ _ (fars_ext B0) (fun hHeld => ?_)
            clear hK K
            try simp only [Act.put, List.getElem_toArray, List.getElem_cons_zero, List.getElem_cons_succ, List.setIfInBounds_toArray, List.set_cons_zero, List.set_cons_succ]
            refine wpAnyH_ready (rs := [4]) (by kernel_rfl) (by simp) (AllReadyH.cons rfl (fun K hK => ?_) AllReadyH.nil)
            go_simp
            refine (HJ.out wr.drew B0).mono ?_
            rintro e m1 ⟨rfl, b1⟩
            have N1 : Ext wr m1 := B0.trans b1
            refine hK.out _ _ (fars_ext N1) (fun hHeld => ?_)
            clear hK K
            try simp only [Act.put, List.getElem_toArray, List.getElem_cons_zero, List.getElem_cons_succ, List.setIfInBounds_toArray, List.set_cons_zero, List.set_cons_succ]
            refine wpAnyH_ready (rs := [7]) (by kernel_rfl) (by simp) (AllReadyH.cons rfl (fun K hK => ?_) AllReadyH.nil)
            refine step_wp (by rfl) ?_
            refine wp_store_blk _ _ _ rfl (D) ((r).map bval) rfl rfl _ _ (ext_blk HD.out N1) (by rw [List.length_map, List.length_map, HRL.out, HHL.out]) (num_size (HRL.out)) (bval_one _) ?_
            intro m2 hb2 hg2
            refine hK.out _ _ (fars_put N1 hg2) (fun hHeld => ?_)
            clear hK K
            try simp only [Act.put, List.getElem_toArray, List.getElem_cons_zero, List.getElem_cons_succ, List.setIfInBounds_toArray, List.set_cons_zero, List.set_cons_succ]
            refine wpAnyH_ready (rs := [8]) (by kernel_rfl) (by simp) (AllReadyH.cons rfl (fun K hK => ?_) AllReadyH.nil)
            go_simp
            refine hK.out _ _ (fars_put N1 hg2) (fun hHeld => ?_)
            clear hK K
            try simp only [Act.put, List.getElem_toArray, List.getElem_cons_zero, List.getElem_cons_succ, List.setIfInBounds_toArray, List.set_cons_zero, List.set_cons_succ]
            refine wpAnyH_done (by kernel_rfl) ?_ _
            have HD9 := Lib.hid hb2
            have HE9 := Lib.hid (ext_grown (HE.out.trans N1) hg2 HDW.out)
            have HA9 := Lib.hid ((ext_blk HA.out N1).grown hg2 (by simpa using HAD.out.symm))
            generalize m2 = w9 at HD9 HE9 HA9 ⊢
            go_wp2_with fail
            go_step3
            change (0 = 0 ∧ (CheckJ root n i b p bv A w _ _ ∧ _ < _))
            refine ⟨rfl, ⟨j + 1, s2, r, q.drop 1, .slice aq2 nq2 cq2, D, HS2.out, Or.inr (by rw [HW2.out]; omega), HV2.out, HRL.out, HQ2.out, by have := HQL.out; rw [List.length_drop]; omega, HA9.out, HD9.out, HAD.out, HDW.out, HE9.out, fun n => ([undef, undef, undef, undef, undef, undef, _, _, _, _, _, undef, undef, _, _, _, _, _, _, _, _, _, _, _, _, _, _, _, _, _, _, _, _, _, _, _, _, _, _, _, _, _, _, _, _, _, _, _, _, _, _, _, _, _, _, _, _, _, _, _, _, _, _, _, _, _, _, _, _, _, _, _, _, _] : List Value).getD n undef, rfl⟩, ?_⟩
            show 2 * n - (intOf (.int .i64 (s2 : Int))).toNat < 2 * n - (intOf (.int .i64 (s : Int))).toNat
            have := HP.out
            have := HW2.out
            simp only [intOf]
            omega
      · have hfm : (m : Int) ≤ (f : Int) := by omega
        have HV2 : Hid (merV n i b p (j + 1) = some (h, q)) := Lib.hid (by rw [HMS.out, if_neg hfn])
        clear hm HMS HCN HCS
        go_wp2_with fail
        refine (HBS.out _).mono ?_
        rintro e w' ⟨rfl, rfl⟩
        go_wp2_with fail
        go_step3
        change (0 = 0 ∧ (CheckJ root n i b p bv A w _ _ ∧ _ < _))
        refine ⟨rfl, ⟨j + 1, s2, h, q, _, D, HS2.out, Or.inr (by rw [HW2.out]; omega), HV2.out, HHL.out, HQ.out, HQL.out, HA.out, HD.out, HAD.out, HDW.out, HE.out, fun n => ([undef, undef, undef, undef, undef, undef, _, _, _, _, _, undef, undef, _, _, _, _, _, _, _, _, _, _, _, _, _, _, _, _, _, _, _, _, _, _, _, _, _, _, _, _, _, _, _, _, _, _, _, _, _, _, _, _, _, _, _, _, _, _, _, _, _, _, _, _, _, _, _, _, _, _, _, _, _] : List Value).getD n undef, rfl⟩, ?_⟩
        show 2 * n - (intOf (.int .i64 (s2 : Int))).toNat < 2 * n - (intOf (.int .i64 (s : Int))).toNat
        have := HP.out
        have := HW2.out
        simp only [intOf]
        omega
    · have hc' : ¬ (s : Int) < (n : Int) := by omega
      have HF : Hid (ans = (decide (q.length = 0) && decide (h = root))) := Lib.hid (HCS.out h q j (by rw [← hs]; omega) HV.out)
      clear hs HCN HCS
      by_cases hz : q.length = 0
      · have hz' : (q.length : Int) = 0 := by omega
        obtain ⟨e, he⟩ : ∃ e, e = decide (h = root) := ⟨_, rfl⟩
        have HF : Hid (ans = e) := Lib.hid (by rw [HF.out, decide_eq_true hz, Bool.true_and, he])
        have HDE := Lib.hid he.symm
        clear he
        go_wp2_with (first | (refine wpList_eql (by rfl) _ _ _ _ _ _ 32 _ h root e rfl (Or.inl ⟨rfl, HDE.out⟩) Tryd.underlying26 Tryd.underlying5 num_info num_cells num_guard rfl rfl HHL.out HRL0.out ?_) | (refine wpList_load_w (by rfl) _ _ rfl D rfl _ _ _ _ HD.out Tryd.underlying26 HIH.out ?_) | (refine wpList_load_w (by rfl) _ _ rfl A rfl _ _ _ _ HA.out Tryd.underlying26 HIR.out ?_))
        simp only [Exit.jump]
        go_ret
        exact ⟨by rw [HF.out]; rfl, HE.out⟩
      · have hz' : ¬ (q.length : Int) = 0 := by omega
        have HF : Hid (ans = false) := Lib.hid (by rw [HF.out, decide_eq_false hz, Bool.false_and])
        go_wp2_with fail
        simp only [Exit.jump]
        go_ret
        exact ⟨by rw [HF.out]; rfl, HE.out⟩

set_option maxRecDepth 100000 in
set_option maxHeartbeats 4000000 in
theorem MCheck_num (root : List UInt8) (n i : Int) (b : List UInt8) (p : List (List UInt8)) (bv pv : Value) (w : World) (hr : root.length = 32) (hn1 : -9223372036854775808 ≤ n) (hn2 : n ≤ 9223372036854775807) (hi1 : -9223372036854775808 ≤ i) (hi2 : i ≤ 9223372036854775807) (hbl : b.length ≤ 1000000) (hpl : p.length ≤ 1000000) (hb : Row1 w bv (b.map bval)) (hp : RowN w pv p) (hG : GlobR w) :
    Calls Tryd.prog 16 #[.agg (root.map bval).toArray, .int .i64 n, .int .i64 i, bv, pv] w fun e w' => e = .returned (.bool (merC root n i b p)) ∧ Below w.heap.size w w' := by
  by_cases hin : 0 ≤ i ∧ i < n ∧ n ≤ 1048576
  · obtain ⟨j, rfl⟩ : ∃ j : Nat, i = (j : Int) := ⟨i.toNat, by omega⟩
    obtain ⟨m, rfl⟩ : ∃ m : Nat, n = (m : Int) := ⟨n.toNat, by omega⟩
    exact mCheck_in root m j b p bv pv w hr (by omega) (by omega) hbl hpl hb hp hG
  · have HF := Lib.hid (merC_out (root := root) (b := b) (p := p) hin)
    generalize merC root n i b p = ans at *
    have HE0 := Lib.hid (Ext.alloc w (.cells (root.map bval).toArray 26))
    clear hb hp hG hr
    by_cases c1 : i < 0
    · clear hin
      go_enter Tryd.func16, Tryd.ntmps16
      go_upto_region 1 with (fail)
      refine wp_scope_back0 0 (fun _ _ => False) (fun _ _ => 0) rfl ?_ (fun _ _ h => h.elim)
      intro _
      go_wp2_with fail
      simp only [Exit.jump]
      go_ret
      exact ⟨by rw [HF.out]; rfl, HE0.out⟩
    · by_cases c2 : n ≤ i
      · clear hin
        go_enter Tryd.func16, Tryd.ntmps16
        go_upto_region 1 with (fail)
        refine wp_scope_back0 0 (fun _ _ => False) (fun _ _ => 0) rfl ?_ (fun _ _ h => h.elim)
        intro _
        go_wp2_with fail
        simp only [Exit.jump]
        go_ret
        exact ⟨by rw [HF.out]; rfl, HE0.out⟩
      · have c3 : 1048576 < n := by omega
        clear hin
        go_enter Tryd.func16, Tryd.ntmps16
        go_upto_region 1 with (fail)
        refine wp_scope_back0 0 (fun _ _ => False) (fun _ _ => 0) rfl ?_ (fun _ _ h => h.elim)
        intro _
        go_wp2_with fail
        simp only [Exit.jump]
        go_ret
        exact ⟨by rw [HF.out]; rfl, HE0.out⟩

end Go.Proofs.YtcadfccijeodbaaDoor

/- THE CONTRACTS of package merkle, as the laws of chapter 15 take them: of the program's own text. Each theorem names its own conditions. -/
namespace Go.Proofs.YtcadfccijeodbaaDoor
open Go.RowKit
set_option linter.unusedVariables false

/-- What the code asks of the world. -/
def MG (w : World) : Prop := GlobR w
theorem MG.ext {w w' : World} (h : MG w) (hb : Ext w w') : MG w' := GlobR.ext h hb
theorem MRoot_num (ls : List (List UInt8)) (v : Value) (w : World) (hb : ∀ l ∈ ls, l.length ≤ 1000000) (hl : ls.length ≤ 1000000) (hv : RowB w v ls) (hG : MG w) :
    Calls Tryd.prog 11 #[v] w fun e w' => e = .returned (.agg ((merR ls).map bval).toArray) ∧ Below w.heap.size w w' := mRoot_any ls v w hb hl hv hG

end Go.Proofs.YtcadfccijeodbaaDoor

/- The walk of what every law of chapter 15 begins with: alive. Laid by wip/gen/gmerl.py. Each theorem names its own conditions. -/
namespace Go.Proofs.YtcadfccijeodbaaDoor
open Go.RowKit
set_option linter.unusedVariables false
set_option linter.unusedSimpArgs false

theorem mer_num (w : World) : (Instr.build 26 #[]).run Tryd.prog w = .ok (.agg (zer.map bval).toArray) w := by
  simp [Instr.build, Tryd.zeroValue26]
  rfl
theorem mer_size_alloc (w : World) (o : Obj) : (w.alloc o).heap.size = w.heap.size + 1 := by simp
theorem mer_x : merR [[120]] ≠ zer := by decide +kernel
theorem merC_x1 : merC (merR [[120]]) 1 0 [120] [] = true := by
  have h := merC_in (root := merR [[120]]) (n := 1) (i := 0) [120] [] (by omega) (by omega)
  exact h.trans (decide_eq_true rfl)
theorem merC_x2 : merC (merR [[120]]) 2 0 [120] [] = false := by
  have h := merC_in (root := merR [[120]]) (n := 2) (i := 0) [120] [] (by omega) (by omega)
  exact h.trans (decide_eq_false (by rw [merU_none 0 [120] (by omega) rfl]; exact fun e => by cases e))

set_option maxRecDepth 100000 in
set_option maxHeartbeats 8000000 in
theorem alive_any15 (w : World) (hG : MG w) : Calls Tryd.prog 9 #[] w fun e w' => e = .returned (.bool true) ∧ Below w.heap.size w w' := by
  have HG := Lib.hid hG
  clear hG
  have kc := fun (w : World) (C : Array Value) (n c : Nat) => Lib.run_convert_bytes_const (P := Tryd.prog) w 34 5 C n c Tryd.underlying34 Tryd.underlying5
  go_enter Tryd.func9, Tryd.ntmps9
  go_upto_region 2 with (fail)
  have hx0 : Row1 (w.alloc (.cells #[.int .u8 120] 5 (1, 2))) (.slice (some ⟨w.heap.size, 0, none⟩) 1 1) (([120] : List UInt8).map bval) := Row1.made_mark w _ _ _ _ _ _ rfl rfl rfl (by unfold maxLen; omega)
  obtain ⟨w1, hw1⟩ : ∃ w1, w1 = w.alloc (.cells #[.int .u8 120] 5 (1, 2)) := ⟨_, rfl⟩
  have HE1 : Hid (Ext w w1) := Lib.hid (by rw [hw1]; exact Ext.alloc _ _)
  have hs1 : w1.heap.size = w.heap.size + 1 := by rw [hw1]; exact mer_size_alloc _ _
  rw [← hw1] at hx0
  have hv0 : RowB (w1.alloc (.cells #[.slice (some ⟨w.heap.size, 0, none⟩) 1 1] 34)) (.slice (some ⟨w1.heap.size, 0, none⟩) 1 1) [[120]] := rowB1 (Row1.made w1 _ _ _ _ [.slice (some ⟨w.heap.size, 0, none⟩) 1 1] rfl rfl rfl (by unfold maxLen; omega)) (hx0.below (Ext.alloc _ _))
  have HEV : Hid (Ext w1 (w1.alloc (.cells #[.slice (some ⟨w.heap.size, 0, none⟩) 1 1] 34))) := Lib.hid (Ext.alloc _ _)
  have hc0 : (w1.alloc (.cells #[.slice (some ⟨w.heap.size, 0, none⟩) 1 1] 34)).cell? ⟨w1.heap.size, 0, none⟩ = some (.slice (some ⟨w.heap.size, 0, none⟩) 1 1) := by
    rw [World.cell?_alloc_at _ _ _ _ rfl]
    rfl
  try rw [← hw1]
  try rw [← hs1]
  generalize w1.alloc (.cells #[.slice (some ⟨w.heap.size, 0, none⟩) 1 1] 34) = w2 at *
  generalize w1.heap.size = L at *
  have HE := Lib.hid (HE1.out.trans HEV.out)
  have HV := Lib.hid hv0
  have HC0 := Lib.hid hc0
  have HX := Lib.hid ((hx0.below HEV.out))
  clear hx0 hv0 hc0 hw1 hs1 HE1 HEV kc
  have HPI : Hid (merPI [[120]] 0 = []) := Lib.hid rfl
  go_wp2_with fail
  refine (MPath_num [[120]] _ 0 w2 (by decide) (by decide) (by decide) (by decide) HV.out (HG.out.ext HE.out)).mono ?_
  rintro e w3 ⟨x3, rfl, hr3, hb⟩
  rw [HPI.out] at hr3
  obtain ⟨a3, c3, rfl, _⟩ := hr3.form
  have HW := Lib.hid (show Ext w2 w3 from hb)
  clear hr3 hb HPI
  have hd : decide ((0 : Int) ≤ 0 ∧ (0 : Int) < (([[120]] : List (List UInt8)).length : Int)) = true := by decide
  rw [hd]
  have hl0 : ([] : List (List UInt8)).length = 0 := rfl
  rw [hl0]
  clear hd hl0
  go_wp2_with fail
  refine (MRoot_num [[120]] _ w3 (by decide) (by decide) (HV.out.below HW.out) (HG.out.ext (HE.out.trans HW.out))).mono ?_
  rintro e w4 ⟨rfl, hb⟩
  have HW := Lib.hid (HW.out.trans hb)
  have HRL : Hid ((merR [[120]]).length = 32) := Lib.hid (merR_length _)
  have HNZ := Lib.hid mer_x
  have HM1 := Lib.hid merC_x1
  have HM2 := Lib.hid merC_x2
  generalize merR [[120]] = r at *
  have HIR := Lib.hid (num_size HRL.out)
  have HLR : Hid ((r.map bval).length = (ints .u8 (List.replicate 32 0)).length) := Lib.hid (by rw [List.length_map, HRL.out, ints_length, List.length_replicate])
  have HZ := Lib.hid (Blk.made w4 (ints .u8 (List.replicate 32 0)) 26)
  have HEA := Lib.hid (Ext.alloc w4 (.cells (ints .u8 (List.replicate 32 0)).toArray 26))
  clear hb
  go_upto_region 4 with (refine wpList_store_blk rfl _ _ _ rfl w4.heap.size (r.map bval) rfl rfl _ _ HZ.out HLR.out HIR.out (bval_one _) ?_; intro w5 hb2 hg2)
  have HX5 := Lib.hid (ext_grown HEA.out hg2 (Nat.le_refl _))
  have HW := Lib.hid (HW.out.trans HX5.out)
  have HD := Lib.hid hb2
  generalize w4.heap.size = D at *
  clear hb2 hg2 HZ HEA HX5
  have HE := Lib.hid (HE.out.trans HW.out)
  have HXB := Lib.hid (HX.out.below HW.out)
  have HC5 : Hid (w5.cell? ⟨L, 0, none⟩ = some (.slice (some ⟨w.heap.size, 0, none⟩) 1 1)) := Lib.hid ((HW.out.cell (World.block_lt_of_cell? w2 _ HC0.out)).trans HC0.out)
  generalize w.heap.size = X at *
  have HK1 := Lib.hid (fun (wx : World) (hx : Ext w5 wx) => MCheck_num r 1 0 [120] [] _ (.slice none 0 0) wx HRL.out (by decide) (by decide) (by decide) (by decide) (by decide) (by decide) (HXB.out.below hx) (RowN.nil wx) (HG.out.ext (HE.out.trans hx)))
  have HK2 := Lib.hid (fun (wx : World) (hx : Ext w5 wx) => MCheck_num r 2 0 [120] [] _ (.slice none 0 0) wx HRL.out (by decide) (by decide) (by decide) (by decide) (by decide) (by decide) (HXB.out.below hx) (RowN.nil wx) (HG.out.ext (HE.out.trans hx)))
  rw [HM1.out] at HK1
  rw [HM2.out] at HK2
  have B0 : Ext w5 w5.drew := Ext.drew _
  refine wp_region_held_drew (S := fun w' => Ext w5 w') (by kernel_rfl) B0 (fun hHeld => ?_)
  refine wpAnyH_take (i := 0) (v := .bool true) rfl (by kernel_rfl) (by kernel_rfl) (by kernel_rfl) (fun _ _ _ h => h) (yi_move _ (.bool true) (by rfl) rfl rfl) hHeld ?_
  simp only [Act.put, List.getElem_toArray, List.getElem_cons_zero, List.getElem_cons_succ, List.setIfInBounds_toArray, List.set_cons_zero, List.set_cons_succ]
  refine wpAnyH_take (i := 1) (v := .bool true) rfl (by kernel_rfl) (by kernel_rfl) (by kernel_rfl) (fun _ _ _ h => h) (yi_move _ (.bool true) (by rfl) rfl rfl) hHeld ?_
  simp only [Act.put, List.getElem_toArray, List.getElem_cons_zero, List.getElem_cons_succ, List.setIfInBounds_toArray, List.set_cons_zero, List.set_cons_succ]
  refine wpAnyH_take (i := 2) (v := .slice a3 0 c3) rfl (by kernel_rfl) (by kernel_rfl) (by kernel_rfl) (fun _ _ _ h => h) (yi_move _ (.slice a3 0 c3) (by rfl) rfl rfl) hHeld ?_
  simp only [Act.put, List.getElem_toArray, List.getElem_cons_zero, List.getElem_cons_succ, List.setIfInBounds_toArray, List.set_cons_zero, List.set_cons_succ]
  refine wpAnyH_take (i := 3) (v := .int .i64 ((0 : Nat) : Int)) rfl (by kernel_rfl) (by kernel_rfl) (by kernel_rfl) (fun _ _ _ h => h) (yi_len _ _ _ _ _ _ Tryd.underlying28 (by rfl) rfl rfl) hHeld ?_
  simp only [Act.put, List.getElem_toArray, List.getElem_cons_zero, List.getElem_cons_succ, List.setIfInBounds_toArray, List.set_cons_zero, List.set_cons_succ]
  refine wpAnyH_take (i := 4) (v := .bool true) rfl (by kernel_rfl) (by kernel_rfl) (by kernel_rfl) (fun _ _ _ h => h) (yi_eqi .i64 _ _ _ _ _ _ true (decide_eq_true (rfl)) (by rfl) rfl rfl rfl) hHeld ?_
  simp only [Act.put, List.getElem_toArray, List.getElem_cons_zero, List.getElem_cons_succ, List.setIfInBounds_toArray, List.set_cons_zero, List.set_cons_succ]
  refine wpAnyH_take (i := 5) (v := .bool true) rfl (by kernel_rfl) (by kernel_rfl) (by kernel_rfl) (fun _ _ _ h => h) (yi_pick _ _ _ true _ (by rfl) rfl rfl rfl) hHeld ?_
  simp only [Act.put, List.getElem_toArray, List.getElem_cons_zero, List.getElem_cons_succ, List.setIfInBounds_toArray, List.set_cons_zero, List.set_cons_succ]
  refine wpAnyH_take (i := 6) (v := .bool true) rfl (by kernel_rfl) (by kernel_rfl) (by kernel_rfl) (fun _ _ _ h => h) (yi_move _ (.bool true) (by rfl) rfl rfl) hHeld ?_
  simp only [Act.put, List.getElem_toArray, List.getElem_cons_zero, List.getElem_cons_succ, List.setIfInBounds_toArray, List.set_cons_zero, List.set_cons_succ]
  refine wpAnyH_take (i := 7) (v := .agg ((r).map bval).toArray) rfl (by kernel_rfl) (by kernel_rfl) (by kernel_rfl) (fun _ _ _ h => h) (yieldsIf_load_mid (by rfl) _ _ rfl D 0 rfl _ _ (fun w h => bl_range HD.out h) Tryd.underlying26 rfl HIR.out) hHeld ?_
  simp only [Act.put, List.getElem_toArray, List.getElem_cons_zero, List.getElem_cons_succ, List.setIfInBounds_toArray, List.set_cons_zero, List.set_cons_succ]
  refine wpAnyH_take (i := 8) (v := .slice (some ⟨L, 0, none⟩) 1 1) rfl (by kernel_rfl) (by kernel_rfl) (by kernel_rfl) (fun _ _ _ h => h) (yi_move _ (.slice (some ⟨L, 0, none⟩) 1 1) (by rfl) rfl rfl) hHeld ?_
  simp only [Act.put, List.getElem_toArray, List.getElem_cons_zero, List.getElem_cons_succ, List.setIfInBounds_toArray, List.set_cons_zero, List.set_cons_succ]
  refine wpAnyH_take (i := 9) (v := .pointer (some ⟨L, 0, none⟩)) rfl (by kernel_rfl) (by kernel_rfl) (by kernel_rfl) (fun _ _ _ h => h) (yi_val (.pointer (some ⟨L, 0, none⟩)) (by rfl) (fun w _ => by go_simp)) hHeld ?_
  simp only [Act.put, List.getElem_toArray, List.getElem_cons_zero, List.getElem_cons_succ, List.setIfInBounds_toArray, List.set_cons_zero, List.set_cons_succ]
  refine wpAnyH_take (i := 10) (v := .slice (some ⟨X, 0, none⟩) 1 1) rfl (by kernel_rfl) (by kernel_rfl) (by kernel_rfl) (fun _ _ _ h => h) (yi_val (.slice (some ⟨X, 0, none⟩) 1 1) (by rfl) (fun w h => by have hc := (Below.cell h (World.block_lt_of_cell? w5 _ HC5.out)).trans HC5.out; go_simp)) hHeld ?_
  simp only [Act.put, List.getElem_toArray, List.getElem_cons_zero, List.getElem_cons_succ, List.setIfInBounds_toArray, List.set_cons_zero, List.set_cons_succ]
  refine wpAnyH_ready (rs := [11]) (by kernel_rfl) (by simp) (AllReadyH.cons rfl (fun K hK => ?_) AllReadyH.nil)
  go_simp
  refine (HK1.out w5.drew B0).mono ?_
  rintro e m1 ⟨rfl, b1⟩
  have N1 : Ext w5 m1 := B0.trans b1
  refine hK.out _ _ N1 (fun hHeld => ?_)
  clear hK K
  try simp only [Act.put, List.getElem_toArray, List.getElem_cons_zero, List.getElem_cons_succ, List.setIfInBounds_toArray, List.set_cons_zero, List.set_cons_succ]
  refine wpAnyH_take (i := 12) (v := .bool true) rfl (by kernel_rfl) (by kernel_rfl) (by kernel_rfl) (fun _ _ _ h => h) (yi_pick _ _ _ true _ (by rfl) rfl rfl rfl) hHeld ?_
  simp only [Act.put, List.getElem_toArray, List.getElem_cons_zero, List.getElem_cons_succ, List.setIfInBounds_toArray, List.set_cons_zero, List.set_cons_succ]
  refine wpAnyH_take (i := 13) (v := .bool true) rfl (by kernel_rfl) (by kernel_rfl) (by kernel_rfl) (fun _ _ _ h => h) (yi_move _ (.bool true) (by rfl) rfl rfl) hHeld ?_
  simp only [Act.put, List.getElem_toArray, List.getElem_cons_zero, List.getElem_cons_succ, List.setIfInBounds_toArray, List.set_cons_zero, List.set_cons_succ]
  refine wpAnyH_take (i := 14) (v := .agg ((r).map bval).toArray) rfl (by kernel_rfl) (by kernel_rfl) (by kernel_rfl) (fun _ _ _ h => h) (yieldsIf_load_mid (by rfl) _ _ rfl D 0 rfl _ _ (fun w h => bl_range HD.out h) Tryd.underlying26 rfl HIR.out) hHeld ?_
  simp only [Act.put, List.getElem_toArray, List.getElem_cons_zero, List.getElem_cons_succ, List.setIfInBounds_toArray, List.set_cons_zero, List.set_cons_succ]
  refine wpAnyH_take (i := 15) (v := .slice (some ⟨L, 0, none⟩) 1 1) rfl (by kernel_rfl) (by kernel_rfl) (by kernel_rfl) (fun _ _ _ h => h) (yi_move _ (.slice (some ⟨L, 0, none⟩) 1 1) (by rfl) rfl rfl) hHeld ?_
  simp only [Act.put, List.getElem_toArray, List.getElem_cons_zero, List.getElem_cons_succ, List.setIfInBounds_toArray, List.set_cons_zero, List.set_cons_succ]
  refine wpAnyH_take (i := 16) (v := .pointer (some ⟨L, 0, none⟩)) rfl (by kernel_rfl) (by kernel_rfl) (by kernel_rfl) (fun _ _ _ h => h) (yi_val (.pointer (some ⟨L, 0, none⟩)) (by rfl) (fun w _ => by go_simp)) hHeld ?_
  simp only [Act.put, List.getElem_toArray, List.getElem_cons_zero, List.getElem_cons_succ, List.setIfInBounds_toArray, List.set_cons_zero, List.set_cons_succ]
  refine wpAnyH_take (i := 17) (v := .slice (some ⟨X, 0, none⟩) 1 1) rfl (by kernel_rfl) (by kernel_rfl) (by kernel_rfl) (fun _ _ _ h => h) (yi_val (.slice (some ⟨X, 0, none⟩) 1 1) (by rfl) (fun w h => by have hc := (Below.cell h (World.block_lt_of_cell? w5 _ HC5.out)).trans HC5.out; go_simp)) hHeld ?_
  simp only [Act.put, List.getElem_toArray, List.getElem_cons_zero, List.getElem_cons_succ, List.setIfInBounds_toArray, List.set_cons_zero, List.set_cons_succ]
  refine wpAnyH_ready (rs := [18]) (by kernel_rfl) (by simp) (AllReadyH.cons rfl (fun K hK => ?_) AllReadyH.nil)
  go_simp
  refine (HK2.out m1 N1).mono ?_
  rintro e m2 ⟨rfl, b2⟩
  have N2 : Ext w5 m2 := N1.trans b2
  refine hK.out _ _ N2 (fun hHeld => ?_)
  clear hK K
  try simp only [Act.put, List.getElem_toArray, List.getElem_cons_zero, List.getElem_cons_succ, List.setIfInBounds_toArray, List.set_cons_zero, List.set_cons_succ]
  refine wpAnyH_take (i := 19) (v := .bool true) rfl (by kernel_rfl) (by kernel_rfl) (by kernel_rfl) (fun _ _ _ h => h) (yi_not _ _ false (by rfl) rfl rfl) hHeld ?_
  simp only [Act.put, List.getElem_toArray, List.getElem_cons_zero, List.getElem_cons_succ, List.setIfInBounds_toArray, List.set_cons_zero, List.set_cons_succ]
  refine wpAnyH_take (i := 20) (v := .bool true) rfl (by kernel_rfl) (by kernel_rfl) (by kernel_rfl) (fun _ _ _ h => h) (yi_pick _ _ _ true _ (by rfl) rfl rfl rfl) hHeld ?_
  simp only [Act.put, List.getElem_toArray, List.getElem_cons_zero, List.getElem_cons_succ, List.setIfInBounds_toArray, List.set_cons_zero, List.set_cons_succ]
  refine wpAnyH_take (i := 21) (v := .bool true) rfl (by kernel_rfl) (by kernel_rfl) (by kernel_rfl) (fun _ _ _ h => h) (yi_move _ (.bool true) (by rfl) rfl rfl) hHeld ?_
  simp only [Act.put, List.getElem_toArray, List.getElem_cons_zero, List.getElem_cons_succ, List.setIfInBounds_toArray, List.set_cons_zero, List.set_cons_succ]
  refine wpAnyH_take (i := 22) (v := .agg ((r).map bval).toArray) rfl (by kernel_rfl) (by kernel_rfl) (by kernel_rfl) (fun _ _ _ h => h) (yieldsIf_load_mid (by rfl) _ _ rfl D 0 rfl _ _ (fun w h => bl_range HD.out h) Tryd.underlying26 rfl HIR.out) hHeld ?_
  simp only [Act.put, List.getElem_toArray, List.getElem_cons_zero, List.getElem_cons_succ, List.setIfInBounds_toArray, List.set_cons_zero, List.set_cons_succ]
  refine wpAnyH_take (i := 23) (v := .agg ((zer).map bval).toArray) rfl (by kernel_rfl) (by kernel_rfl) (by kernel_rfl) (fun _ _ _ h => h) (yi_build _ _ _ _ mer_num (by rfl) rfl (by simp)) hHeld ?_
  simp only [Act.put, List.getElem_toArray, List.getElem_cons_zero, List.getElem_cons_succ, List.setIfInBounds_toArray, List.set_cons_zero, List.set_cons_succ]
  refine wpAnyH_take (i := 24) (v := .bool true) rfl (by kernel_rfl) (by kernel_rfl) (by kernel_rfl) (fun _ _ _ h => h) (yi_neqB _ _ _ _ _ 32 _ (r) (zer) true (by rfl) rfl (decide_eq_false HNZ.out) Tryd.underlying26 Tryd.underlying5 num_info num_cells num_guard rfl rfl (HRL.out) (zer_length)) hHeld ?_
  simp only [Act.put, List.getElem_toArray, List.getElem_cons_zero, List.getElem_cons_succ, List.setIfInBounds_toArray, List.set_cons_zero, List.set_cons_succ]
  refine wpAnyH_take (i := 25) (v := .bool true) rfl (by kernel_rfl) (by kernel_rfl) (by kernel_rfl) (fun _ _ _ h => h) (yi_pick _ _ _ true _ (by rfl) rfl rfl rfl) hHeld ?_
  simp only [Act.put, List.getElem_toArray, List.getElem_cons_zero, List.getElem_cons_succ, List.setIfInBounds_toArray, List.set_cons_zero, List.set_cons_succ]
  refine wpAnyH_ready (rs := [26]) (by kernel_rfl) (by simp) (AllReadyH.cons rfl (fun K hK => ?_) AllReadyH.nil)
  go_simp
  refine hK.out _ _ N2 (fun hHeld => ?_)
  clear hK K
  try simp only [Act.put, List.getElem_toArray, List.getElem_cons_zero, List.getElem_cons_succ, List.setIfInBounds_toArray, List.set_cons_zero, List.set_cons_succ]
  refine wpAnyH_done (by kernel_rfl) ?_ _
  have HN := Lib.hid (HE.out.trans N2)
  go_wp2_with fail
  go_ret
  exact ⟨rfl, HN.out⟩

end Go.Proofs.YtcadfccijeodbaaDoor
