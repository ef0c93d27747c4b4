/- The walk of package sha's schedule. Each theorem names its own conditions. -/
import Derived.Test.YtcadfccijeodbaaDoorShaRot
import Derived.Test.YtcadfccijeodbaaDoorShaPut
import Derived.Test.YtcadfccijeodbaaDoorNumKit
import Derived.Deep.CutRange
import Derived.Deep.RegionWith
import Derived.StillTailTactics
import Derived.Deep.QuietTactic
import Derived.BigQuiet
namespace Go.Proofs.YtcadfccijeodbaaDoor
open Go.RowKit
set_option linter.unusedVariables false
set_option linter.unusedSimpArgs false

theorem Tryd.arr48 : (Tryd.prog.info? 48).map (·.size) = some 8 := by kernel_rfl
theorem Tryd.arr62 : (Tryd.prog.info? 62).map (·.size) = some 64 := by kernel_rfl
theorem Tryd.arr49 : (Tryd.prog.info? 49).map (·.size) = some 8 := by kernel_rfl
theorem Tryd.arr55 : (Tryd.prog.info? 55).map (·.size) = some 64 := by kernel_rfl

theorem boxes3u (w : World) (a b d : List Value) (s t u : TypeId) : Blk (((w.alloc (.cells a.toArray s)).alloc (.cells b.toArray t)).alloc (.cells d.toArray u)) w.heap.size a s ∧ Blk (((w.alloc (.cells a.toArray s)).alloc (.cells b.toArray t)).alloc (.cells d.toArray u)) (w.heap.size + 1) b t ∧
    Blk (((w.alloc (.cells a.toArray s)).alloc (.cells b.toArray t)).alloc (.cells d.toArray u)) (w.heap.size + 1 + 1) d u ∧ Below w.heap.size w (((w.alloc (.cells a.toArray s)).alloc (.cells b.toArray t)).alloc (.cells d.toArray u)) := by
  obtain ⟨h1, h2, h3⟩ := boxes2 w a b s t
  refine ⟨h1.alloc _, h2.alloc _, ?_, Ext.trans h3 (Ext.alloc _ _)⟩
  have := Blk.made ((w.alloc (.cells a.toArray s)).alloc (.cells b.toArray t)) d u
  simpa using this

/-- What is left of an array of bytes, from one of them on. -/
theorem cut_arr {t : TypeId} {n : Nat} {e : TypeId} (ht : Tryd.prog.underlying t = some (.array n e)) (hc : Tryd.prog.cellsOf e = 1) (h : ∀ w, (sizeOf e).run Tryd.prog w = .ok 1 w) (w : World) (A p : Nat) (hp : p < n) :
    (Instr.sliceAt t (.pointer (some ⟨A, 0, none⟩)) (some (.int .i64 (p : Int))) none none).run Tryd.prog w = .ok (.slice (some ⟨A, p, none⟩) (n - p) (n - p)) w := by
  have e1 : Tryd.prog.arrayLen t = n := by unfold Program.arrayLen; rw [ht]
  have e2 : Tryd.prog.elem t = e := by unfold Program.elem; rw [ht]
  rw [run_sliceAt_array_l w t ⟨A, 0, none⟩ (by rw [e1, e2]; exact ht) .i64 (p : Int) (by omega) (by rw [e1]; omega), e2, h, e1]
  simp [slicedAt, Addr.add, show ¬ n = p by omega]
  exact fun h => h.symm

set_option maxRecDepth 100000 in
set_option maxHeartbeats 8000000 in
theorem schedule_any (cs : List UInt8) (w : World) (hl : cs.length = 64) :
    Calls Tryd.prog 36 #[.agg (cs.map bval).toArray] w fun e w' => e = .returned (.agg (ints .u32 (ws (wSch cs 0 48))).toArray) ∧ Below w.heap.size w w' := by
  have HL := Lib.hid hl
  have HB := Lib.hid (boxes3u w (cs.map bval) (ints .u32 (List.replicate 64 0)) (ints .u32 (List.replicate 64 0)) 55 62 62)
  clear hl
  go_enter Tryd.func36, Tryd.ntmps36
  go_wp2_with fail
  obtain ⟨H1, H2, H3, HE⟩ := HB.out
  change Code.wp _ _ _ _ (((w.alloc (.cells (cs.map bval).toArray 55)).alloc (.cells (ints .u32 (List.replicate 64 0)).toArray 62)).alloc (.cells (ints .u32 (List.replicate 64 0)).toArray 62))
  generalize (((w.alloc (.cells (cs.map bval).toArray 55)).alloc (.cells (ints .u32 (List.replicate 64 0)).toArray 62)).alloc (.cells (ints .u32 (List.replicate 64 0)).toArray 62)) = w3 at *
  obtain ⟨A, hA⟩ : ∃ A, A = w.heap.size := ⟨_, rfl⟩
  rw [← hA] at H1 H2 H3 ⊢
  have hA2 : w.heap.size ≤ A := by omega
  have H1 := Lib.hid H1
  have H2 := Lib.hid H2
  have H3 := Lib.hid H3
  have HE := Lib.hid HE
  clear hA HB

  go_loopw [8] (fun iv wr => ∃ (k : Nat), k ≤ 16 ∧ iv = .int .i64 (k : Int) ∧ Blk wr A (cs.map bval) 55 ∧ Blk wr (A + 1) (ints .u32 (List.replicate 64 0)) 62 ∧ Blk wr (A + 1 + 1) (ints .u32 (ws (wTop cs 0 k))) 62 ∧ Ext w wr) (fun iv _ => 16 - (intOf iv).toNat)
  case atStart => exact ⟨0, by omega, rfl, H1.out, H2.out, by rw [wTop, ws_zeros]; exact H3.out, HE.out⟩
  case round =>
    clear H1 H2 H3 HE
    obtain ⟨k, hk, rfl, hb1, hb2, hb3, hbel⟩ := hrel
    have k0 : (0 : Int) ≤ (k : Int) := Int.natCast_nonneg _
    have hwl := wTop_length cs 0 k
    by_cases hlk : k < 16
    · have k1 : (k : Int) < 16 := by omega
      have k64 : (k : Int) < 64 := by omega
      have e1 := hb3.cell k
      rw [ints_get (by rw [ws_length]; omega)] at e1
      have f1 := hb3.free k
      generalize (ws (wTop cs 0 k)).getD k 0 = u at e1
      have hs := cut_arr Tryd.underlying55 num_cells Tryd.sizeOf5 wr A (4 * k) (by omega)
      have e4 : ((4 * k : Nat) : Int) = 4 * (k : Int) := by omega
      rw [e4] at hs
      have HB1 := Lib.hid hb1
      have HB2 := Lib.hid hb2
      have HB3 := Lib.hid hb3
      have HE := Lib.hid hbel
      have HW := Lib.hid (sha_word_any A (4 * k) (64 - 4 * k) (64 - 4 * k) cs 55 wr hb1 (by have := HL.out; omega) (by omega))
      clear hb1 hb2 hb3 hbel e4
      go_wp2_with fail
      refine HW.out.mono ?_
      rintro e w4 ⟨rfl, rfl⟩
      have HST : Hid (ws (wTop cs 0 (k + 1)) = (ws (wTop cs 0 k)).set k (wi (beW cs (4 * k)))) := Lib.hid (by rw [ws_set, wTop]; simp)
      generalize wi (beW cs (4 * k)) = z at *
      go_wp2_with fail
      go_roundw
      case rel =>
        refine ⟨k + 1, by omega, by go_num, (HB1.out.far (by simp <;> omega) _).drewN 1, (HB2.out.far (by simp) _).drewN 1, ?_, (Below.setCell HE.out (by simp <;> omega) _).drew⟩
        rw [HST.out]
        exact (HB3.out.seti k _).drewN 1
      case measure => simp [intOf]; omega
    · have hk16 : k = 16 := by omega
      have hk17 : (k : Int) = 16 := by omega
      rw [hk17]
      clear hk17
      subst hk16
      have hw0 : wTop cs 0 16 = wSch cs 0 0 := rfl
      rw [hw0] at hb3
      have H1 := Lib.hid hb1
      have H2 := Lib.hid hb2
      have H3 := Lib.hid hb3
      have HE := Lib.hid hbel
      clear hb1 hb2 hb3 hbel hwl hw0
      go_wp2_with fail
      obtain ⟨wo, rfl⟩ : ∃ wo : World, wo = wr := ⟨_, rfl⟩
      go_loopw [5] (fun iv wr => ∃ (q : Nat), q ≤ 48 ∧ iv = .int .i64 ((16 + q : Nat) : Int) ∧ Blk wr (A + 1) (ints .u32 (List.replicate 64 0)) 62 ∧ Blk wr (A + 1 + 1) (ints .u32 (ws (wSch cs 0 q))) 62 ∧ Ext w wr) (fun iv _ => 64 - (intOf iv).toNat)
      case atStart => exact ⟨0, by omega, rfl, H2.out, H3.out, HE.out⟩
      case round =>
        clear H1 H2 H3 HE
        obtain ⟨q, hq, rfl, hb2, hb3, hbel⟩ := hrel
        have hwl := wSch_length cs 0 q
        by_cases hlq : q < 48
        · obtain ⟨i, hi⟩ : ∃ i : Nat, i = 16 + q := ⟨_, rfl⟩
          rw [← hi]
          have i0 : (16 : Int) ≤ (i : Int) := by omega
          have i1 : (i : Int) < 64 := by omega
          obtain ⟨j16, hj16⟩ : ∃ j : Nat, j = i - 16 := ⟨_, rfl⟩
          obtain ⟨j15, hj15⟩ : ∃ j : Nat, j = i - 15 := ⟨_, rfl⟩
          obtain ⟨j7, hj7⟩ : ∃ j : Nat, j = i - 7 := ⟨_, rfl⟩
          obtain ⟨j2, hj2⟩ : ∃ j : Nat, j = i - 2 := ⟨_, rfl⟩
          have g16 : (i : Int) - 16 = (j16 : Int) := by omega
          have g15 : (i : Int) - 15 = (j15 : Int) := by omega
          have g7 : (i : Int) - 7 = (j7 : Int) := by omega
          have g2 : (i : Int) - 2 = (j2 : Int) := by omega
          have l16 : (j16 : Int) < 64 := by omega
          have l15 : (j15 : Int) < 64 := by omega
          have l7 : (j7 : Int) < 64 := by omega
          have l2 : (j2 : Int) < 64 := by omega
          have e16 := hb3.cell j16
          rw [ints_get (by rw [ws_length]; omega), ws_getD] at e16
          have e15 := hb3.cell j15
          rw [ints_get (by rw [ws_length]; omega), ws_getD] at e15
          have e7 := hb3.cell j7
          rw [ints_get (by rw [ws_length]; omega), ws_getD] at e7
          have e2 := hb3.cell j2
          rw [ints_get (by rw [ws_length]; omega), ws_getD] at e2
          have e0 := hb3.cell i
          rw [ints_get (by rw [ws_length]; omega), ws_getD] at e0
          have f0 := hb3.free i
          have HST : Hid (wSch cs 0 (q + 1) = (wSch cs 0 q).set i (((wSch cs 0 q).getD j2 0#32 |> sg1) + (wSch cs 0 q).getD j7 0#32 + sg0 ((wSch cs 0 q).getD j15 0#32) + (wSch cs 0 q).getD j16 0#32)) := Lib.hid (by
            rw [hi, hj16, hj15, hj7, hj2, hi, wSch, wNext]
            congr 1
            ac_rfl)
          generalize (wSch cs 0 q).getD j16 0#32 = y16 at *
          generalize (wSch cs 0 q).getD j15 0#32 = y15 at *
          generalize (wSch cs 0 q).getD j7 0#32 = y7 at *
          generalize (wSch cs 0 q).getD j2 0#32 = y2 at *
          generalize (wSch cs 0 q).getD i 0#32 = y0 at *
          have T1 := Lib.hid (fun w => turned_any y15 7 (by omega) (by omega) w)
          have T2 := Lib.hid (fun w => turned_any y15 18 (by omega) (by omega) w)
          have T3 := Lib.hid (fun w => turned_any y2 17 (by omega) (by omega) w)
          have T4 := Lib.hid (fun w => turned_any y2 19 (by omega) (by omega) w)
          have HB2 := Lib.hid hb2
          have HB3 := Lib.hid hb3
          have HE := Lib.hid hbel
          have HI := Lib.hid hi
          clear hb2 hb3 hbel hwl hi hj16 hj15 hj7 hj2 hq
          go_wp2_with fail
          go_region
          go_wp2_with fail
          refine (T1.out _).mono ?_
          rintro e w' ⟨rfl, rfl⟩
          go_wp2_with fail
          refine (T2.out _).mono ?_
          rintro e w' ⟨rfl, rfl⟩
          go_wp2_with fail
          refine (T3.out _).mono ?_
          rintro e w' ⟨rfl, rfl⟩
          go_wp2_with fail
          refine (T4.out _).mono ?_
          rintro e w' ⟨rfl, rfl⟩
          go_wp2_with fail
          have x1 : bits .xor .u32 (bits .xor .u32 (wi (rotr y15 7)) (wi (rotr y15 18))) (wi y15 / 8) = wi (sg0 y15) := by rw [show (8 : Int) = 2 ^ 3 from rfl, wi_shr, wi_xor, wi_xor]; rfl
          have x2 : bits .xor .u32 (bits .xor .u32 (wi (rotr y2 17)) (wi (rotr y2 19))) (wi y2 / 1024) = wi (sg1 y2) := by rw [show (1024 : Int) = 2 ^ 10 from rfl, wi_shr, wi_xor, wi_xor]; rfl
          have HX1 := Lib.hid x1
          have HX2 := Lib.hid x2
          clear x1 x2 T1 T2 T3 T4
          rw [HX1.out, HX2.out]
          have HWS : Hid ((wi (sg1 y2) + wi y7 + wi (sg0 y15) + wi y16) % 4294967296 = wi (sg1 y2 + y7 + sg0 y15 + y16)) := Lib.hid (by rw [← wi_add, ← wi_add, ← wi_add, IntKind.wrap_u32, IntKind.wrap_u32, IntKind.wrap_u32]; omega)
          go_wp2_with fail
          go_region
          go_wp2_with fail
          go_roundw
          case rel =>
            refine ⟨q + 1, by omega, by have := HI.out; subst this; go_num, (HB2.out.far (by simp) _).drewN 2, ?_, (Below.setCell HE.out (by simp <;> omega) _).drew.drew⟩
            rw [HST.out, ← ws_set, ← HWS.out]
            exact (HB3.out.seti i _).drewN 2
          case measure => simp [intOf]; omega
        · have hk48 : q = 48 := by omega
          subst hk48
          have H2 := Lib.hid hb2
          have H3 := Lib.hid hb3
          have HE := Lib.hid hbel
          clear hb2 hb3 hbel hwl
          have HIr : Hid ((Tryd.prog.info? 62).map (·.size) = some (ints .u32 (ws (wSch cs 0 48))).length) := Lib.hid (by rw [ints_length, ws_length, wSch_length]; exact Tryd.arr62)
          have HLE : Hid ((ints .u32 (ws (wSch cs 0 48))).length = (ints .u32 (List.replicate 64 0)).length) := Lib.hid (by rw [ints_length, ws_length, wSch_length, ints_length, List.length_replicate])
          go_wp2_with (first | (refine wpList_load_blk rfl _ _ rfl (A + 1 + 1) rfl _ _ _ _ H3.out Tryd.underlying62 HIr.out ?_) | (refine wpList_store_blk rfl _ _ _ rfl (A + 1) (ints .u32 (ws (wSch cs 0 48))) rfl rfl _ _ H2.out HLE.out HIr.out (ints_one _ _) ?_; intro w4 hb4 hg4))
          refine bodyPost_ret (result_blk rfl _ (A + 1) _ _ _ _ rfl hb4 Tryd.underlying62 HIr.out) rfl ?_
          exact ⟨rfl, ext_grown HE.out hg4 (by omega)⟩

end Go.Proofs.YtcadfccijeodbaaDoor
