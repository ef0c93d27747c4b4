/- The walk of the document's own Sha. Each theorem names its own conditions. -/
import Derived.Test.YtcadfccijeodbaaDoorRefRor
import Derived.Test.YtcadfccijeodbaaDoorShaSch
import Derived.Test.YtcadfccijeodbaaDoorDetWord
import Derived.Test.YtcadfccijeodbaaDoorGlobKit
import Derived.Test.YtcadfccijeodbaaDoorRefPad
import Derived.Test.YtcadfccijeodbaaDoorNumKit
import Derived.Test.YtcadfccijeodbaaDoorMsgKit
import Derived.Deep.CutRange
import Derived.Deep.RegionWith
import Derived.StillTailTactics
import Derived.Deep.QuietTactic
import Derived.BigQuiet
import Derived.Test.YtcadfccijeodbaaDoorRefShaK
namespace Go.Proofs.YtcadfccijeodbaaDoor
open Go.RowKit
set_option linter.unusedVariables false
set_option linter.unusedSimpArgs false

/-- The variable k256 reads as the text lays it. -/
def GlobK (w : World) : Prop := w.rangeAt 0 0 (ints .u32 (ws K256))
theorem GlobK.ext {w w' : World} (h : GlobK w) (hb : Ext w w') : GlobK w' := glob_ext h hb
theorem GlobK.cell {w : World} (h : GlobK w) {j : Nat} (hj : j < 64) : w.cell? ⟨0, j, none⟩ = some (.int .u32 (wi (K256.getD j 0#32))) := by
  have := h j (.int .u32 (wi (K256.getD j 0#32))) (by rw [ints_get (by rw [ws_length]; exact hj), ws_getD])
  simpa using this
set_option maxRecDepth 100000 in
set_option maxHeartbeats 8000000 in
theorem rSha_any (v : Value) (b : List UInt8) (w : World) (hv : Row1 w v (b.map bval)) (hb : b.length ≤ 1099511627776) (hG : GlobK w) :
    Calls Tryd.prog 22 #[v] w fun e w' => e = .returned (.agg ((sha256 b).map bval).toArray) ∧ Below w.heap.size w w' := by
  have HRW := Lib.hid hv
  have HG := Lib.hid hG
  have HB := Lib.hid (boxes2 w (ints .u8 (List.replicate 32 0)) (ints .u32 (List.replicate 8 0)) 26 48)
  have HBL := Lib.hid hb
  clear hv hG hb
  go_enter Tryd.func22, Tryd.ntmps22
  go_wp2_with (refine wpList_store_blk rfl _ _ _ rfl (w.heap.size + 1) (ints .u32 (ws H256)) rfl rfl _ _ HB.out.2.1 rfl (by rw [ints_length]; exact Tryd.arr48) (ints_one _ _) ?_; intro w1 hb1 hg1)
  have H1 := HB.out.1.grown hg1 (by simp)
  have HE := ext_grown HB.out.2.2 hg1 (by omega)
  have H2 := hb1
  obtain ⟨A, hA⟩ : ∃ A, A = w.heap.size := ⟨_, rfl⟩
  rw [← hA] at H1 H2 ⊢
  have hA2 : w.heap.size ≤ A := by omega
  have HP := Lib.hid (padded_any v b w1 (HRW.out.below HE) HBL.out)
  have H1 := Lib.hid H1
  have H2 := Lib.hid H2
  have HE := Lib.hid HE
  clear hA hb1 hg1 HB
  refine HP.out.mono ?_
  rintro e w2 ⟨mv, rfl, hrow, hb2⟩
  have H1 := Lib.hid (ext_blk H1.out hb2)
  have H2 := Lib.hid (ext_blk H2.out hb2)
  have HE := Lib.hid (HE.out.trans hb2)
  have hpl := padded_length b
  obtain ⟨m, hm⟩ : ∃ m, m = padded b := ⟨_, rfl⟩
  obtain ⟨N, hN⟩ : ∃ N, N = (b.length + 72) / 64 := ⟨_, rfl⟩
  have HM := Lib.hid hm
  have HN := Lib.hid hN
  rw [← hm] at hrow hpl
  rw [← hN] at hpl
  have HR := Lib.hid hrow
  obtain ⟨a, cap, rfl, r1, r2, r3, r4⟩ := id hrow
  rw [List.length_map, hpl] at r1 HR ⊢
  unfold maxLen at r2
  obtain ⟨b', off, rfl, hbs, hcell⟩ := r4 (by intro e; have h := congrArg List.length e; rw [List.length_map, hpl] at h; simp only [List.length_nil] at h; omega)
  have hms : MsgAt w2.heap.size b' off m w2 := ⟨hbs, Nat.le_refl _, fun j hj => by rw [hcell j (by rw [List.length_map]; exact hj), bval_get hj]⟩
  have hbA : b' ≠ A + 1 := by
    rintro rfl
    have h1 := hms.2.2 0 (by omega)
    rw [H2.out.cell] at h1
    exact (not_bytes (by decide)) h1
  have HBA := Lib.hid hbA
  have HMS := Lib.hid hms
  have HBS := Lib.hid hbs
  have hNb : N ≤ 17179869300 := by have := HBL.out; omega
  have HML := Lib.hid hpl
  clear hb2 hrow hm hN hpl r3 r4 HP HRW hms hcell hbA hbs
  go_wp2_with fail
  go_loopw [5] (fun iv wr => ∃ (n : Nat), n ≤ N ∧ iv = .int .i64 (64 * (n : Int)) ∧ Blk wr (A + 1) (ints .u32 (ws (hRun m n))) 48 ∧ Blk wr A (ints .u8 (List.replicate 32 0)) 26 ∧ MsgAt w2.heap.size b' off m wr ∧ Ext w wr) (fun iv _ => 64 * N - (intOf iv).toNat)
  case atStart => exact ⟨0, by omega, rfl, H2.out, H1.out, HMS.out, HE.out⟩
  case round =>
    clear H1 H2 HE
    obtain ⟨n, hn, rfl, hb2, hb1, he2, hbel⟩ := hrel
    have n0 : (0 : Int) ≤ 64 * (n : Int) := by omega
    by_cases hlt : n < N
    · have n1 : 64 * (n : Int) < 64 * (N : Int) := by omega
      have H1 := Lib.hid hb1
      have H2 := Lib.hid hb2
      have HE := Lib.hid hbel
      have HE2 := Lib.hid he2
      clear hb1 hb2 hbel he2
      have HZ := Lib.hid (Blk.made wr (ints .u32 (List.replicate 64 0)) 62)
      have hDA := H2.out.lt
      have H1 := Lib.hid (H1.out.alloc (.cells (ints .u32 (List.replicate 64 0)).toArray 62))
      have H2 := Lib.hid (H2.out.alloc (.cells (ints .u32 (List.replicate 64 0)).toArray 62))
      have HE2' := HE2.out.2.1
      have HE := Lib.hid (HE.out.trans (Ext.alloc wr (.cells (ints .u32 (List.replicate 64 0)).toArray 62)))
      have HE2 := Lib.hid (HE2.out.ext (Ext.alloc wr (.cells (ints .u32 (List.replicate 64 0)).toArray 62)))
      have hD2 : w2.heap.size ≤ wr.heap.size := HE2'
      clear HE2'
      go_upto_region 7 with (fail)
      change Code.wp _ _ _ _ (wr.alloc (.cells (ints .u32 (List.replicate 64 0)).toArray 62))
      generalize wr.alloc (.cells (ints .u32 (List.replicate 64 0)).toArray 62) = w3 at *
      generalize wr.heap.size = D at *
      go_wp2_with fail
      go_loopw [7] (fun iv wr => ∃ (k : Nat), k ≤ 16 ∧ iv = .int .i64 (k : Int) ∧ Blk wr D (ints .u32 (ws (wTop m (64 * n) k))) 62 ∧ Blk wr (A + 1) (ints .u32 (ws (hRun m n))) 48 ∧ Blk wr A (ints .u8 (List.replicate 32 0)) 26 ∧ MsgAt w2.heap.size b' off m wr ∧ Ext w wr) (fun iv _ => 16 - (intOf iv).toNat)
      case atStart => exact ⟨0, by omega, rfl, by rw [wTop, ws_zeros]; exact HZ.out, H2.out, H1.out, HE2.out, HE.out⟩
      case round =>
        clear H1 H2 HE HE2 HZ
        obtain ⟨k, hk, rfl, hbw, hb2, hb1, he2, hbel⟩ := hrel
        have k0 : (0 : Int) ≤ (k : Int) := Int.natCast_nonneg _
        have hwl := wTop_length m (64 * n) k
        by_cases hlk : k < 16
        · have k1 : (k : Int) < 16 := by omega
          have k64 : (k : Int) < 64 := by omega
          obtain ⟨p, hp⟩ : ∃ p : Nat, p = 64 * n + 4 * k := ⟨_, rfl⟩
          have hp1 : 64 * (n : Int) + 4 * (k : Int) = (p : Int) := by omega
          have hN1 : ((64 * N : Nat) : Int) = 64 * (N : Int) := by omega
          have hpm : p + 3 < m.length := by rw [HML.out]; omega
          have hpN : p + 3 < 64 * N := by omega
          have cc : ∀ j, j ≤ 3 → wr.cell? ⟨b', off + (p + j), none⟩ = some (.int .u8 ((m.getD (p + j) 0).toNat : Int)) := fun j hj => by
            exact he2.2.2 (p + j) (by omega)
          have c0 := cc 0 (by omega)
          have c1 := cc 1 (by omega)
          have c2 := cc 2 (by omega)
          have c3 := cc 3 (by omega)
          simp only [Nat.add_zero] at c0
          have d0 := UInt8.toNat_lt (m.getD p 0)
          have d1 := UInt8.toNat_lt (m.getD (p + 1) 0)
          have d2 := UInt8.toNat_lt (m.getD (p + 2) 0)
          have d3 := UInt8.toNat_lt (m.getD (p + 3) 0)
          have HBE : Hid (beW m p = BitVec.ofNat 32 (16777216 * (m.getD p 0).toNat + 65536 * (m.getD (p + 1) 0).toNat + 256 * (m.getD (p + 2) 0).toNat + (m.getD (p + 3) 0).toNat)) := Lib.hid rfl
          generalize (m.getD p 0).toNat = x0 at *
          generalize (m.getD (p + 1) 0).toNat = x1 at *
          generalize (m.getD (p + 2) 0).toNat = x2 at *
          generalize (m.getD (p + 3) 0).toNat = x3 at *
          have e1 := hbw.cell k
          rw [ints_get (by rw [ws_length]; omega)] at e1
          have f1 := hbw.free k
          generalize (ws (wTop m (64 * n) k)).getD k 0 = u at e1
          have p0 : (p : Int) + 3 < 64 * (N : Int) := by omega
          have p1 : (p : Int) < 64 * (N : Int) := by omega
          have p2 : (p : Int) + 1 < 64 * (N : Int) := by omega
          have p3 : (p : Int) + 2 < 64 * (N : Int) := by omega
          have q0 : (0 : Int) ≤ (p : Int) + 1 ∧ (0 : Int) ≤ (p : Int) + 2 ∧ (0 : Int) ≤ (p : Int) + 3 := by omega
          have HST : Hid (wTop m (64 * n) (k + 1) = (wTop m (64 * n) k).set k (beW m p)) := Lib.hid (by rw [hp]; rfl)
          have HWB := Lib.hid hbw
          have H1 := Lib.hid hb1
          have H2 := Lib.hid hb2
          have HE := Lib.hid hbel
          have HE2 := Lib.hid he2
          have HP := Lib.hid hp
          clear hbw hb1 hb2 hbel he2 hwl cc hp hN1
          go_upto_region 11 with (fail)
          clear hp1
          go_region
          go_wp2_with fail
          go_roundw
          case rel =>
            refine ⟨k + 1, by omega, by go_num, ?_, (H2.out.far (by simp <;> omega) _).drewN 1, (H1.out.far (by simp <;> omega) _).drewN 1, (HE2.out.far (by have := HBS.out; simp; omega) _).drew, (Below.setCell HE.out (by simp <;> omega) _).drew⟩
            · rw [HST.out, ← ws_set, HBE.out, ← or4 x0 x1 x2 x3 d0 d1 d2 d3]
              exact (HWB.out.seti k _).drewN 1
          case measure => simp [intOf]; omega
        · have hk16 : k = 16 := by omega
          have hk17 : (k : Int) = 16 := by omega
          rw [hk17]
          clear hk17
          subst hk16
          have hw0 : wTop m (64 * n) 16 = wSch m (64 * n) 0 := rfl
          rw [hw0] at hbw
          have HWB := Lib.hid hbw
          have H1 := Lib.hid hb1
          have H2 := Lib.hid hb2
          have HE := Lib.hid hbel
          have HE2 := Lib.hid he2
          clear hbw hb1 hb2 hbel he2 hwl hw0
          go_wp2_with fail
          obtain ⟨wo, rfl⟩ : ∃ wo : World, wo = wr := ⟨_, rfl⟩
          go_loopw [9] (fun iv wr => ∃ (q : Nat), q ≤ 48 ∧ iv = .int .i64 ((16 + q : Nat) : Int) ∧ Blk wr D (ints .u32 (ws (wSch m (64 * n) q))) 62 ∧ Blk wr (A + 1) (ints .u32 (ws (hRun m n))) 48 ∧ Blk wr A (ints .u8 (List.replicate 32 0)) 26 ∧ MsgAt w2.heap.size b' off m wr ∧ Ext w wr) (fun iv _ => 64 - (intOf iv).toNat)
          case atStart => exact ⟨0, by omega, rfl, HWB.out, H2.out, H1.out, HE2.out, HE.out⟩
          case round =>
            clear H1 H2 HE HE2 HWB
            obtain ⟨q, hq, rfl, hbw, hb2, hb1, he2, hbel⟩ := hrel
            by_cases hlq : q < 48
            · obtain ⟨i, hi⟩ : ∃ i : Nat, i = 16 + q := ⟨_, rfl⟩
              rw [← hi]
              have i0 : (16 : Int) ≤ (i : Int) := by omega
              have i1 : (i : Int) < 64 := by omega
              have hwl := wSch_length m (64 * n) q
              obtain ⟨j16, hj16⟩ : ∃ j : Nat, j = i - 16 := ⟨_, rfl⟩
              obtain ⟨j15, hj15⟩ : ∃ j : Nat, j = i - 15 := ⟨_, rfl⟩
              obtain ⟨j7, hj7⟩ : ∃ j : Nat, j = i - 7 := ⟨_, rfl⟩
              obtain ⟨j2, hj2⟩ : ∃ j : Nat, j = i - 2 := ⟨_, rfl⟩
              have g16 : (i : Int) - 16 = (j16 : Int) := by omega
              have g15 : (i : Int) - 15 = (j15 : Int) := by omega
              have g7 : (i : Int) - 7 = (j7 : Int) := by omega
              have g2 : (i : Int) - 2 = (j2 : Int) := by omega
              have l16 : (j16 : Int) < 64 := by omega
              have l15 : (j15 : Int) < 64 := by omega
              have l7 : (j7 : Int) < 64 := by omega
              have l2 : (j2 : Int) < 64 := by omega
              have e16 := hbw.cell j16
              rw [ints_get (by rw [ws_length]; omega), ws_getD] at e16
              have e15 := hbw.cell j15
              rw [ints_get (by rw [ws_length]; omega), ws_getD] at e15
              have e7 := hbw.cell j7
              rw [ints_get (by rw [ws_length]; omega), ws_getD] at e7
              have e2 := hbw.cell j2
              rw [ints_get (by rw [ws_length]; omega), ws_getD] at e2
              have e0 := hbw.cell i
              rw [ints_get (by rw [ws_length]; omega), ws_getD] at e0
              have f0 := hbw.free i
              have HST : Hid (wSch m (64 * n) (q + 1) = (wSch m (64 * n) q).set i ((wSch m (64 * n) q).getD j16 0#32 + sg0 ((wSch m (64 * n) q).getD j15 0#32) + (wSch m (64 * n) q).getD j7 0#32 + sg1 ((wSch m (64 * n) q).getD j2 0#32))) := Lib.hid (by rw [hi, hj16, hj15, hj7, hj2, hi]; rfl)
              generalize (wSch m (64 * n) q).getD j16 0#32 = y16 at *
              generalize (wSch m (64 * n) q).getD j15 0#32 = y15 at *
              generalize (wSch m (64 * n) q).getD j7 0#32 = y7 at *
              generalize (wSch m (64 * n) q).getD j2 0#32 = y2 at *
              generalize (wSch m (64 * n) q).getD i 0#32 = y0 at *
              have HWB := Lib.hid hbw
              have H1 := Lib.hid hb1
              have H2 := Lib.hid hb2
              have HE := Lib.hid hbel
              have HE2 := Lib.hid he2
              have HI := Lib.hid hi
              clear hbw hb1 hb2 hbel he2 hwl hi hj16 hj15 hj7 hj2 hq
              go_wp2_with fail
              have w16 : IntKind.i64.wrap (j16 : Int) = (j16 : Int) := IntWalk.i64_in _ (by omega)
              have w7 : IntKind.i64.wrap (j7 : Int) = (j7 : Int) := IntWalk.i64_in _ (by omega)
              have z16 : (0 : Int) ≤ (j16 : Int) := Int.natCast_nonneg _
              have z7 : (0 : Int) ≤ (j7 : Int) := Int.natCast_nonneg _
              go_still_tail 29, (by kernel_rfl)
              still_call ((ror_any _ 7 (by omega) _).mono fun _ _ h => ⟨h.1, h.2.symm⟩)
              repeat still_step
              still_call ((ror_any _ 18 (by omega) _).mono fun _ _ h => ⟨h.1, h.2.symm⟩)
              repeat still_step
              still_call ((ror_any _ 17 (by omega) _).mono fun _ _ h => ⟨h.1, h.2.symm⟩)
              repeat still_step
              still_call ((ror_any _ 19 (by omega) _).mono fun _ _ h => ⟨h.1, h.2.symm⟩)
              repeat still_step
              try refine wpStill_nil ?_
              change wpList _ _ _ _ _ wr.drew
              have e0d : (wr.drew).cell? ⟨D, i, none⟩ = some (.int .u32 (wi y0)) := e0
              have f0d : (wr.drew).frozen? ⟨D, i, none⟩ = false := f0
              have HWB : Hid (Blk wr.drew D _ _) := Lib.hid HWB.out
              have H1 : Hid (Blk wr.drew A _ _) := Lib.hid H1.out
              have H2 : Hid (Blk wr.drew (A + 1) _ _) := Lib.hid H2.out
              have HE : Hid (Ext w wr.drew) := Lib.hid (HE.out.trans (Ext.drew wr))
              have HE2 : Hid (MsgAt w2.heap.size b' off m wr.drew) := Lib.hid (HE2.out.ext (Ext.drew wr))
              clear e0 f0
              generalize wr.drew = w4 at *
              have z0 : (0 : Int) ≤ (i : Int) := by omega
              have x1 : bits .xor .u32 (bits .xor .u32 (wi (rotr y15 7)) (wi (rotr y15 18))) (wi y15 / 8) = wi (sg0 y15) := by rw [show (8 : Int) = 2 ^ 3 from rfl, wi_shr, wi_xor, wi_xor]; rfl
              have x2 : bits .xor .u32 (bits .xor .u32 (wi (rotr y2 17)) (wi (rotr y2 19))) (wi y2 / 1024) = wi (sg1 y2) := by rw [show (1024 : Int) = 2 ^ 10 from rfl, wi_shr, wi_xor, wi_xor]; rfl
              have HX1 := Lib.hid x1
              have HX2 := Lib.hid x2
              clear x1 x2 w16 w7 z16 z7
              have HWS : Hid ((wi y16 + wi (sg0 y15) + wi y7 + wi (sg1 y2)) % 4294967296 = wi (y16 + sg0 y15 + y7 + sg1 y2)) := Lib.hid (by rw [← wi_add, ← wi_add, ← wi_add, IntKind.wrap_u32, IntKind.wrap_u32, IntKind.wrap_u32]; omega)
              rw [HX1.out, HX2.out]
              go_wp2_with fail
              go_roundw
              case rel =>
                refine ⟨q + 1, by omega, by have := HI.out; subst this; go_num, ?_, H2.out.far (by simp <;> omega) _, H1.out.far (by simp <;> omega) _, HE2.out.far (by have := HBS.out; simp; omega) _, Below.setCell HE.out (by simp <;> omega) _⟩
                rw [HST.out, ← ws_set, ← HWS.out]
                exact HWB.out.seti i _
              case measure => simp [intOf]; omega
            · have hq48 : q = 48 := by omega
              subst hq48
              have HWB := Lib.hid hbw
              have H1 := Lib.hid hb1
              have H2 := Lib.hid hb2
              have HE := Lib.hid hbel
              have HE2 := Lib.hid he2
              have HHR : Hid (hRun m (n + 1) = hAdd (hRun m n) (vRun (hRun m n) (wSch m (64 * n) 48) 64) 8) := Lib.hid rfl
              have HH8 := Lib.hid (hRun_length m n)
              have HW64 := Lib.hid (wSch_length m (64 * n) 48)
              clear hbw hb2 hb1 he2 hbel
              generalize wSch m (64 * n) 48 = W at *
              generalize hRun m n = h at *
              have HIh : Hid ((Tryd.prog.info? 48).map (·.size) = some (ints .u32 (ws h)).length) := Lib.hid (by rw [ints_length, ws_length, HH8.out]; exact Tryd.arr48)
              have HEZ := Lib.hid (Blk.made wr (ints .u32 (List.replicate 8 0)) 48)
              have HWL := Lib.hid HWB.out.lt
              have H1L := Lib.hid H1.out.lt
              have H2L := Lib.hid H2.out.lt
              have K1 := Lib.hid (H1.out.alloc (.cells (ints .u32 (List.replicate 8 0)).toArray 48))
              have K2 := Lib.hid (H2.out.alloc (.cells (ints .u32 (List.replicate 8 0)).toArray 48))
              have KW := Lib.hid (HWB.out.alloc (.cells (ints .u32 (List.replicate 8 0)).toArray 48))
              have HS := Lib.hid HE.out.size
              have HS2 := Lib.hid HE2.out.2.1
              have KE := Lib.hid (HE.out.trans (Ext.alloc wr (.cells (ints .u32 (List.replicate 8 0)).toArray 48)))
              have KE2 := Lib.hid (HE2.out.ext (Ext.alloc wr (.cells (ints .u32 (List.replicate 8 0)).toArray 48)))
              have HLh : Hid ((ints .u32 (ws h)).length = (ints .u32 (List.replicate 8 0)).length) := Lib.hid (by rw [ints_length, ws_length, HH8.out, ints_length, List.length_replicate])
              go_upto_region 19 with (first | (refine wpList_load_blk rfl _ _ rfl (A + 1) rfl _ _ _ _ H2.out Tryd.underlying48 HIh.out ?_) | (refine wpList_store_blk rfl _ _ _ rfl wr.heap.size (ints .u32 (ws h)) rfl rfl _ _ HEZ.out HLh.out HIh.out (ints_one _ _) ?_; intro wq hbq hgq))
              have H1 := Lib.hid (K1.out.grown hgq (by have := H1L.out; simp; omega))
              have H2 := Lib.hid (K2.out.grown hgq (by have := H2L.out; simp; omega))
              have HWB := Lib.hid (KW.out.grown hgq (by have := HWL.out; simp; omega))
              have HE := Lib.hid (ext_grown KE.out hgq HS.out)
              have HE2 := Lib.hid (KE2.out.grown hgq (by have := HBS.out; have := HS2.out; simp; omega))
              have HVB := Lib.hid hbq
              have HDE : Hid (D < wr.heap.size) := HWL
              have HAE : Hid (A + 1 < wr.heap.size) := H2L
              generalize wr.heap.size = E at *
              clear hbq hgq HEZ H1L H2L K1 K2 KW KE KE2 HLh HS
              go_wp2_with fail
              obtain ⟨wo, rfl⟩ : ∃ wo : World, wo = wq := ⟨_, rfl⟩
              go_loopw [13] (fun iv wr => ∃ (k : Nat), k ≤ 64 ∧ iv = .int .i64 (k : Int) ∧ Blk wr E (ints .u32 (ws (vRun h W k))) 48 ∧ Blk wr D (ints .u32 (ws W)) 62 ∧ Blk wr (A + 1) (ints .u32 (ws h)) 48 ∧ Blk wr A (ints .u8 (List.replicate 32 0)) 26 ∧ MsgAt w2.heap.size b' off m wr ∧ Ext w wr) (fun iv _ => 64 - (intOf iv).toNat)
              case atStart => exact ⟨0, by omega, rfl, HVB.out, HWB.out, H2.out, H1.out, HE2.out, HE.out⟩
              case round =>
                clear HVB HWB H1 H2 HE HE2
                obtain ⟨k, hk, rfl, hbv, hbw, hb2, hb1, he2, hbel⟩ := hrel
                have HVB := Lib.hid hbv
                have HWB := Lib.hid hbw
                have H1 := Lib.hid hb1
                have H2 := Lib.hid hb2
                have HE := Lib.hid hbel
                have HE2 := Lib.hid he2
                have HVL := Lib.hid (vRun_length h W HH8.out k)
                have k0 : (0 : Int) ≤ (k : Int) := Int.natCast_nonneg _
                clear hbv hbw hb2 hb1 he2 hbel
                by_cases hlr : k < 64
                · have kr : (k : Int) < 64 := by omega
                  have HWK : Hid (∀ w', Blk w' D (ints .u32 (ws W)) 62 → w'.cell? ⟨D, k, none⟩ = some (.int .u32 (wi (W.getD k 0#32)))) := Lib.hid (fun w' h => blk_w h (by rw [HW64.out]; exact hlr))
                  have HKK : Hid (∀ w', Ext wr w' → w'.cell? ⟨0, k, none⟩ = some (.int .u32 (wi (K256.getD k 0#32)))) := Lib.hid (fun w' h => (HG.out.ext (HE.out.trans h)).cell hlr)
                  have HRN : Hid (vRun h W (k + 1) = rnd (vRun h W k) (K256.getD k 0#32) (W.getD k 0#32)) := Lib.hid rfl
                  unfold rnd at HRN
                  generalize K256.getD k 0#32 = kk at *
                  generalize W.getD k 0#32 = wk at *
                  generalize vRun h W k = vv at *
                  have HVC : Hid (∀ j, j < 8 → ∀ w', Blk w' E (ints .u32 (ws vv)) 48 → ∀ x, x = vv.getD j 0#32 → w'.cell? ⟨E, j, none⟩ = some (.int .u32 (wi x))) := Lib.hid (fun j hj w' hb x hx => by rw [hx]; exact blk_w hb (by rw [HVL.out]; exact hj))
                  have hvb := HVB.out
                  have b0 := blk_w hvb (j := 0) (by rw [HVL.out]; omega)
                  have b1 := blk_w hvb (j := 1) (by rw [HVL.out]; omega)
                  have b2 := blk_w hvb (j := 2) (by rw [HVL.out]; omega)
                  have b3 := blk_w hvb (j := 3) (by rw [HVL.out]; omega)
                  have b4 := blk_w hvb (j := 4) (by rw [HVL.out]; omega)
                  have b5 := blk_w hvb (j := 5) (by rw [HVL.out]; omega)
                  have b6 := blk_w hvb (j := 6) (by rw [HVL.out]; omega)
                  have b7 := blk_w hvb (j := 7) (by rw [HVL.out]; omega)
                  obtain ⟨v0, hv0⟩ : ∃ x, x = vv.getD 0 0#32 := ⟨_, rfl⟩
                  have HVE0 := Lib.hid hv0
                  rw [← hv0] at b0 HRN
                  clear hv0
                  obtain ⟨v1, hv1⟩ : ∃ x, x = vv.getD 1 0#32 := ⟨_, rfl⟩
                  have HVE1 := Lib.hid hv1
                  rw [← hv1] at b1 HRN
                  clear hv1
                  obtain ⟨v2, hv2⟩ : ∃ x, x = vv.getD 2 0#32 := ⟨_, rfl⟩
                  have HVE2 := Lib.hid hv2
                  rw [← hv2] at b2 HRN
                  clear hv2
                  obtain ⟨v3, hv3⟩ : ∃ x, x = vv.getD 3 0#32 := ⟨_, rfl⟩
                  have HVE3 := Lib.hid hv3
                  rw [← hv3] at b3 HRN
                  clear hv3
                  obtain ⟨v4, hv4⟩ : ∃ x, x = vv.getD 4 0#32 := ⟨_, rfl⟩
                  have HVE4 := Lib.hid hv4
                  rw [← hv4] at b4 HRN
                  clear hv4
                  obtain ⟨v5, hv5⟩ : ∃ x, x = vv.getD 5 0#32 := ⟨_, rfl⟩
                  have HVE5 := Lib.hid hv5
                  rw [← hv5] at b5 HRN
                  clear hv5
                  obtain ⟨v6, hv6⟩ : ∃ x, x = vv.getD 6 0#32 := ⟨_, rfl⟩
                  have HVE6 := Lib.hid hv6
                  rw [← hv6] at b6 HRN
                  clear hv6
                  obtain ⟨v7, hv7⟩ : ∃ x, x = vv.getD 7 0#32 := ⟨_, rfl⟩
                  have HVE7 := Lib.hid hv7
                  rw [← hv7] at b7 HRN
                  clear hv7
                  clear hvb
                  go_wp2_with fail
                  refine wp_region_all (by kernel_rfl) (by kernel_rfl) ?_
                  refine det_index _ _ _ _ E 8 7 (by rfl) rfl rfl rfl Tryd.underlying48 (by omega) (Tryd.sizeOf47) ?_
                  simp only [Act.put, List.setIfInBounds_toArray, List.set_cons_zero, List.set_cons_succ]
                  refine det_cell _ _ E 7 (.int .u32 (wi v7)) (by rfl) rfl rfl (fun w hw => HVC.out 7 (by omega) _ (ext_blk HVB.out hw) _ HVE7.out) (Tryd.isAgg47) ?_
                  simp only [Act.put, List.setIfInBounds_toArray, List.set_cons_zero, List.set_cons_succ]
                  refine det_move _ (.int .u32 (wi v4)) (by rfl) rfl rfl ?_
                  simp only [Act.put, List.setIfInBounds_toArray, List.set_cons_zero, List.set_cons_succ]
                  refine det_call _ _ _ [.int .u32 (wi v4), .int .u64 6] (.int .u32 (wi (rotr v4 6))) (by rfl) rfl Tryd.call34 rfl (fun w hw => ror_ext v4 6 (by omega) w) ?_
                  simp only [Act.put, List.setIfInBounds_toArray, List.set_cons_zero, List.set_cons_succ]
                  refine det_move _ (.int .u32 (wi v4)) (by rfl) rfl rfl ?_
                  simp only [Act.put, List.setIfInBounds_toArray, List.set_cons_zero, List.set_cons_succ]
                  refine det_call _ _ _ [.int .u32 (wi v4), .int .u64 11] (.int .u32 (wi (rotr v4 11))) (by rfl) rfl Tryd.call34 rfl (fun w hw => ror_ext v4 11 (by omega) w) ?_
                  simp only [Act.put, List.setIfInBounds_toArray, List.set_cons_zero, List.set_cons_succ]
                  refine det_xor _ _ _ _ _ _ _ (wi ((rotr v4 6) ^^^ (rotr v4 11))) (by rfl) rfl rfl rfl (wi_xor _ _) ?_
                  simp only [Act.put, List.setIfInBounds_toArray, List.set_cons_zero, List.set_cons_succ]
                  refine det_move _ (.int .u32 (wi v4)) (by rfl) rfl rfl ?_
                  simp only [Act.put, List.setIfInBounds_toArray, List.set_cons_zero, List.set_cons_succ]
                  refine det_call _ _ _ [.int .u32 (wi v4), .int .u64 25] (.int .u32 (wi (rotr v4 25))) (by rfl) rfl Tryd.call34 rfl (fun w hw => ror_ext v4 25 (by omega) w) ?_
                  simp only [Act.put, List.setIfInBounds_toArray, List.set_cons_zero, List.set_cons_succ]
                  refine det_xor _ _ _ _ _ _ _ (wi (((rotr v4 6) ^^^ (rotr v4 11)) ^^^ (rotr v4 25))) (by rfl) rfl rfl rfl (wi_xor _ _) ?_
                  simp only [Act.put, List.setIfInBounds_toArray, List.set_cons_zero, List.set_cons_succ]
                  refine det_add _ _ _ _ _ _ _ (wi (v7 + (((rotr v4 6) ^^^ (rotr v4 11)) ^^^ (rotr v4 25)))) (by rfl) rfl rfl rfl (wi_add _ _) ?_
                  simp only [Act.put, List.setIfInBounds_toArray, List.set_cons_zero, List.set_cons_succ]
                  refine det_move _ (.int .u32 (wi v4)) (by rfl) rfl rfl ?_
                  simp only [Act.put, List.setIfInBounds_toArray, List.set_cons_zero, List.set_cons_succ]
                  refine det_index _ _ _ _ E 8 5 (by rfl) rfl rfl rfl Tryd.underlying48 (by omega) (Tryd.sizeOf47) ?_
                  simp only [Act.put, List.setIfInBounds_toArray, List.set_cons_zero, List.set_cons_succ]
                  refine det_cell _ _ E 5 (.int .u32 (wi v5)) (by rfl) rfl rfl (fun w hw => HVC.out 5 (by omega) _ (ext_blk HVB.out hw) _ HVE5.out) (Tryd.isAgg47) ?_
                  simp only [Act.put, List.setIfInBounds_toArray, List.set_cons_zero, List.set_cons_succ]
                  refine det_and _ _ _ _ _ _ _ (wi (v4 &&& v5)) (by rfl) rfl rfl rfl (wi_and _ _) ?_
                  simp only [Act.put, List.setIfInBounds_toArray, List.set_cons_zero, List.set_cons_succ]
                  refine det_move _ (.int .u32 (wi v4)) (by rfl) rfl rfl ?_
                  simp only [Act.put, List.setIfInBounds_toArray, List.set_cons_zero, List.set_cons_succ]
                  refine det_winot _ _ v4 (by rfl) rfl rfl ?_
                  simp only [Act.put, List.setIfInBounds_toArray, List.set_cons_zero, List.set_cons_succ]
                  refine det_index _ _ _ _ E 8 6 (by rfl) rfl rfl rfl Tryd.underlying48 (by omega) (Tryd.sizeOf47) ?_
                  simp only [Act.put, List.setIfInBounds_toArray, List.set_cons_zero, List.set_cons_succ]
                  refine det_cell _ _ E 6 (.int .u32 (wi v6)) (by rfl) rfl rfl (fun w hw => HVC.out 6 (by omega) _ (ext_blk HVB.out hw) _ HVE6.out) (Tryd.isAgg47) ?_
                  simp only [Act.put, List.setIfInBounds_toArray, List.set_cons_zero, List.set_cons_succ]
                  refine det_and _ _ _ _ _ _ _ (wi ((~~~v4) &&& v6)) (by rfl) rfl rfl rfl (wi_and _ _) ?_
                  simp only [Act.put, List.setIfInBounds_toArray, List.set_cons_zero, List.set_cons_succ]
                  refine det_xor _ _ _ _ _ _ _ (wi ((v4 &&& v5) ^^^ ((~~~v4) &&& v6))) (by rfl) rfl rfl rfl (wi_xor _ _) ?_
                  simp only [Act.put, List.setIfInBounds_toArray, List.set_cons_zero, List.set_cons_succ]
                  refine det_add _ _ _ _ _ _ _ (wi ((v7 + (((rotr v4 6) ^^^ (rotr v4 11)) ^^^ (rotr v4 25))) + ((v4 &&& v5) ^^^ ((~~~v4) &&& v6)))) (by rfl) rfl rfl rfl (wi_add _ _) ?_
                  simp only [Act.put, List.setIfInBounds_toArray, List.set_cons_zero, List.set_cons_succ]
                  refine det_move _ (.int .i64 ((k : Nat) : Int)) (by rfl) rfl rfl ?_
                  simp only [Act.put, List.setIfInBounds_toArray, List.set_cons_zero, List.set_cons_succ]
                  refine det_index _ _ _ _ 0 64 k (by rfl) rfl rfl rfl Tryd.underlying62 (by omega) (Tryd.sizeOf47) ?_
                  simp only [Act.put, List.setIfInBounds_toArray, List.set_cons_zero, List.set_cons_succ]
                  refine det_cell _ _ 0 k (.int .u32 (wi kk)) (by rfl) rfl rfl (fun w hw => HKK.out _ hw) (Tryd.isAgg47) ?_
                  simp only [Act.put, List.setIfInBounds_toArray, List.set_cons_zero, List.set_cons_succ]
                  refine det_add _ _ _ _ _ _ _ (wi (((v7 + (((rotr v4 6) ^^^ (rotr v4 11)) ^^^ (rotr v4 25))) + ((v4 &&& v5) ^^^ ((~~~v4) &&& v6))) + kk)) (by rfl) rfl rfl rfl (wi_add _ _) ?_
                  simp only [Act.put, List.setIfInBounds_toArray, List.set_cons_zero, List.set_cons_succ]
                  refine det_move _ (.int .i64 ((k : Nat) : Int)) (by rfl) rfl rfl ?_
                  simp only [Act.put, List.setIfInBounds_toArray, List.set_cons_zero, List.set_cons_succ]
                  refine det_index _ _ _ _ D 64 k (by rfl) rfl rfl rfl Tryd.underlying62 (by omega) (Tryd.sizeOf47) ?_
                  simp only [Act.put, List.setIfInBounds_toArray, List.set_cons_zero, List.set_cons_succ]
                  refine det_cell _ _ D k (.int .u32 (wi wk)) (by rfl) rfl rfl (fun w hw => HWK.out _ (ext_blk HWB.out hw)) (Tryd.isAgg47) ?_
                  simp only [Act.put, List.setIfInBounds_toArray, List.set_cons_zero, List.set_cons_succ]
                  refine det_add _ _ _ _ _ _ _ (wi ((((v7 + (((rotr v4 6) ^^^ (rotr v4 11)) ^^^ (rotr v4 25))) + ((v4 &&& v5) ^^^ ((~~~v4) &&& v6))) + kk) + wk)) (by rfl) rfl rfl rfl (wi_add _ _) ?_
                  simp only [Act.put, List.setIfInBounds_toArray, List.set_cons_zero, List.set_cons_succ]
                  refine det_assign _ (.int .u32 (wi ((((v7 + (((rotr v4 6) ^^^ (rotr v4 11)) ^^^ (rotr v4 25))) + ((v4 &&& v5) ^^^ ((~~~v4) &&& v6))) + kk) + wk))) (by rfl) rfl rfl ?_
                  simp only [Act.put, List.setIfInBounds_toArray, List.set_cons_zero, List.set_cons_succ]
                  refine det_nil (fun wx hx => ?_)
                  have HVB := Lib.hid (ext_blk HVB.out hx)
                  have HWB := Lib.hid (ext_blk HWB.out hx)
                  have H1 := Lib.hid (ext_blk H1.out hx)
                  have H2 := Lib.hid (ext_blk H2.out hx)
                  have HE2 := Lib.hid (HE2.out.ext hx)
                  have HE := Lib.hid (HE.out.trans hx)
                  clear hx
                  generalize ht : (((v7 + (((rotr v4 6) ^^^ (rotr v4 11)) ^^^ (rotr v4 25))) + ((v4 &&& v5) ^^^ ((~~~v4) &&& v6))) + kk) + wk = t at *
                  have HT := Lib.hid ht
                  clear ht
                  go_wp2_with fail
                  refine wp_region_all (by kernel_rfl) (by kernel_rfl) ?_
                  refine det_move _ (.int .u32 (wi v0)) (by rfl) rfl rfl ?_
                  simp only [Act.put, List.setIfInBounds_toArray, List.set_cons_zero, List.set_cons_succ]
                  refine det_call _ _ _ [.int .u32 (wi v0), .int .u64 2] (.int .u32 (wi (rotr v0 2))) (by rfl) rfl Tryd.call34 rfl (fun w hw => ror_ext v0 2 (by omega) w) ?_
                  simp only [Act.put, List.setIfInBounds_toArray, List.set_cons_zero, List.set_cons_succ]
                  refine det_move _ (.int .u32 (wi v0)) (by rfl) rfl rfl ?_
                  simp only [Act.put, List.setIfInBounds_toArray, List.set_cons_zero, List.set_cons_succ]
                  refine det_call _ _ _ [.int .u32 (wi v0), .int .u64 13] (.int .u32 (wi (rotr v0 13))) (by rfl) rfl Tryd.call34 rfl (fun w hw => ror_ext v0 13 (by omega) w) ?_
                  simp only [Act.put, List.setIfInBounds_toArray, List.set_cons_zero, List.set_cons_succ]
                  refine det_xor _ _ _ _ _ _ _ (wi ((rotr v0 2) ^^^ (rotr v0 13))) (by rfl) rfl rfl rfl (wi_xor _ _) ?_
                  simp only [Act.put, List.setIfInBounds_toArray, List.set_cons_zero, List.set_cons_succ]
                  refine det_move _ (.int .u32 (wi v0)) (by rfl) rfl rfl ?_
                  simp only [Act.put, List.setIfInBounds_toArray, List.set_cons_zero, List.set_cons_succ]
                  refine det_call _ _ _ [.int .u32 (wi v0), .int .u64 22] (.int .u32 (wi (rotr v0 22))) (by rfl) rfl Tryd.call34 rfl (fun w hw => ror_ext v0 22 (by omega) w) ?_
                  simp only [Act.put, List.setIfInBounds_toArray, List.set_cons_zero, List.set_cons_succ]
                  refine det_xor _ _ _ _ _ _ _ (wi (((rotr v0 2) ^^^ (rotr v0 13)) ^^^ (rotr v0 22))) (by rfl) rfl rfl rfl (wi_xor _ _) ?_
                  simp only [Act.put, List.setIfInBounds_toArray, List.set_cons_zero, List.set_cons_succ]
                  refine det_move _ (.int .u32 (wi v0)) (by rfl) rfl rfl ?_
                  simp only [Act.put, List.setIfInBounds_toArray, List.set_cons_zero, List.set_cons_succ]
                  refine det_index _ _ _ _ E 8 1 (by rfl) rfl rfl rfl Tryd.underlying48 (by omega) (Tryd.sizeOf47) ?_
                  simp only [Act.put, List.setIfInBounds_toArray, List.set_cons_zero, List.set_cons_succ]
                  refine det_cell _ _ E 1 (.int .u32 (wi v1)) (by rfl) rfl rfl (fun w hw => HVC.out 1 (by omega) _ (ext_blk HVB.out hw) _ HVE1.out) (Tryd.isAgg47) ?_
                  simp only [Act.put, List.setIfInBounds_toArray, List.set_cons_zero, List.set_cons_succ]
                  refine det_and _ _ _ _ _ _ _ (wi (v0 &&& v1)) (by rfl) rfl rfl rfl (wi_and _ _) ?_
                  simp only [Act.put, List.setIfInBounds_toArray, List.set_cons_zero, List.set_cons_succ]
                  refine det_move _ (.int .u32 (wi v0)) (by rfl) rfl rfl ?_
                  simp only [Act.put, List.setIfInBounds_toArray, List.set_cons_zero, List.set_cons_succ]
                  refine det_index _ _ _ _ E 8 2 (by rfl) rfl rfl rfl Tryd.underlying48 (by omega) (Tryd.sizeOf47) ?_
                  simp only [Act.put, List.setIfInBounds_toArray, List.set_cons_zero, List.set_cons_succ]
                  refine det_cell _ _ E 2 (.int .u32 (wi v2)) (by rfl) rfl rfl (fun w hw => HVC.out 2 (by omega) _ (ext_blk HVB.out hw) _ HVE2.out) (Tryd.isAgg47) ?_
                  simp only [Act.put, List.setIfInBounds_toArray, List.set_cons_zero, List.set_cons_succ]
                  refine det_and _ _ _ _ _ _ _ (wi (v0 &&& v2)) (by rfl) rfl rfl rfl (wi_and _ _) ?_
                  simp only [Act.put, List.setIfInBounds_toArray, List.set_cons_zero, List.set_cons_succ]
                  refine det_xor _ _ _ _ _ _ _ (wi ((v0 &&& v1) ^^^ (v0 &&& v2))) (by rfl) rfl rfl rfl (wi_xor _ _) ?_
                  simp only [Act.put, List.setIfInBounds_toArray, List.set_cons_zero, List.set_cons_succ]
                  refine det_index _ _ _ _ E 8 1 (by rfl) rfl rfl rfl Tryd.underlying48 (by omega) (Tryd.sizeOf47) ?_
                  simp only [Act.put, List.setIfInBounds_toArray, List.set_cons_zero, List.set_cons_succ]
                  refine det_cell _ _ E 1 (.int .u32 (wi v1)) (by rfl) rfl rfl (fun w hw => HVC.out 1 (by omega) _ (ext_blk HVB.out hw) _ HVE1.out) (Tryd.isAgg47) ?_
                  simp only [Act.put, List.setIfInBounds_toArray, List.set_cons_zero, List.set_cons_succ]
                  refine det_index _ _ _ _ E 8 2 (by rfl) rfl rfl rfl Tryd.underlying48 (by omega) (Tryd.sizeOf47) ?_
                  simp only [Act.put, List.setIfInBounds_toArray, List.set_cons_zero, List.set_cons_succ]
                  refine det_cell _ _ E 2 (.int .u32 (wi v2)) (by rfl) rfl rfl (fun w hw => HVC.out 2 (by omega) _ (ext_blk HVB.out hw) _ HVE2.out) (Tryd.isAgg47) ?_
                  simp only [Act.put, List.setIfInBounds_toArray, List.set_cons_zero, List.set_cons_succ]
                  refine det_and _ _ _ _ _ _ _ (wi (v1 &&& v2)) (by rfl) rfl rfl rfl (wi_and _ _) ?_
                  simp only [Act.put, List.setIfInBounds_toArray, List.set_cons_zero, List.set_cons_succ]
                  refine det_xor _ _ _ _ _ _ _ (wi (((v0 &&& v1) ^^^ (v0 &&& v2)) ^^^ (v1 &&& v2))) (by rfl) rfl rfl rfl (wi_xor _ _) ?_
                  simp only [Act.put, List.setIfInBounds_toArray, List.set_cons_zero, List.set_cons_succ]
                  refine det_add _ _ _ _ _ _ _ (wi ((((rotr v0 2) ^^^ (rotr v0 13)) ^^^ (rotr v0 22)) + (((v0 &&& v1) ^^^ (v0 &&& v2)) ^^^ (v1 &&& v2)))) (by rfl) rfl rfl rfl (wi_add _ _) ?_
                  simp only [Act.put, List.setIfInBounds_toArray, List.set_cons_zero, List.set_cons_succ]
                  refine det_assign _ (.int .u32 (wi ((((rotr v0 2) ^^^ (rotr v0 13)) ^^^ (rotr v0 22)) + (((v0 &&& v1) ^^^ (v0 &&& v2)) ^^^ (v1 &&& v2))))) (by rfl) rfl rfl ?_
                  simp only [Act.put, List.setIfInBounds_toArray, List.set_cons_zero, List.set_cons_succ]
                  refine det_nil (fun wy hy => ?_)
                  have HVB := Lib.hid (ext_blk HVB.out hy)
                  have HWB := Lib.hid (ext_blk HWB.out hy)
                  have H1 := Lib.hid (ext_blk H1.out hy)
                  have H2 := Lib.hid (ext_blk H2.out hy)
                  have HE2 := Lib.hid (HE2.out.ext hy)
                  have HE := Lib.hid (HE.out.trans hy)
                  clear hy
                  generalize hu : (((rotr v0 2) ^^^ (rotr v0 13)) ^^^ (rotr v0 22)) + (((v0 &&& v1) ^^^ (v0 &&& v2)) ^^^ (v1 &&& v2)) = u at *
                  have HU := Lib.hid hu
                  clear hu
                  clear b0 b1 b2 b3 b4 b5 b6 b7
                  have b1 := HVC.out 1 (by omega) _ HVB.out _ HVE1.out
                  have b2 := HVC.out 2 (by omega) _ HVB.out _ HVE2.out
                  have b3 := HVC.out 3 (by omega) _ HVB.out _ HVE3.out
                  have b5 := HVC.out 5 (by omega) _ HVB.out _ HVE5.out
                  have b6 := HVC.out 6 (by omega) _ HVB.out _ HVE6.out
                  have q7 : (wi t + wi u) % 4294967296 = wi (t + u) := by rw [← wi_add, IntKind.wrap_u32]
                  have q8 : (wi v3 + wi t) % 4294967296 = wi (v3 + t) := by rw [← wi_add, IntKind.wrap_u32]
                  have HVN : Hid (vRun h W (k + 1) = [t + u, v0, v1, v2, v3 + t, v4, v5, v6]) := Lib.hid (by rw [HRN.out, ← HT.out, ← HU.out])
                  clear HRN
                  have HLn : Hid ((ints .u32 (ws [t + u, v0, v1, v2, v3 + t, v4, v5, v6])).length = (ints .u32 (ws vv)).length) := Lib.hid (by rw [ints_length, ws_length, ints_length, ws_length, HVL.out]; rfl)
                  have HIn : Hid ((Tryd.prog.info? 48).map (·.size) = some (ints .u32 (ws [t + u, v0, v1, v2, v3 + t, v4, v5, v6])).length) := Lib.hid Tryd.arr48
                  go_wp2_with (refine wpList_store_blk rfl _ _ _ rfl E (ints .u32 (ws [t + u, v0, v1, v2, v3 + t, v4, v5, v6])) rfl rfl _ _ HVB.out HLn.out HIn.out (ints_one _ _) ?_; intro wz hbz hgz)
                  go_roundw
                  case rel => exact ⟨k + 1, by omega, by go_num, by rw [HVN.out]; exact hbz, HWB.out.grown hgz (by have := HDE.out; simp; omega), H2.out.grown hgz (by have := HAE.out; simp; omega), H1.out.grown hgz (by have := HAE.out; simp; omega), HE2.out.grown hgz (by have := HBS.out; have := HS2.out; simp; omega), ext_grown HE.out hgz (by have := HAE.out; omega)⟩
                  case measure => simp [intOf]; omega
                · have hk64 : k = 64 := by omega
                  have hk65 : (k : Int) = 64 := by omega
                  rw [hk65]
                  clear hk65
                  subst hk64
                  generalize vRun h W 64 = vv at *
                  go_wp2_with fail
                  obtain ⟨wo2, rfl⟩ : ∃ wo : World, wo = wr := ⟨_, rfl⟩
                  go_loopw [18] (fun iv wr => ∃ (j : Nat), j ≤ 8 ∧ iv = .int .i64 (j : Int) ∧ Blk wr E (ints .u32 (ws vv)) 48 ∧ Blk wr (A + 1) (ints .u32 (ws (hAdd h vv j))) 48 ∧ Blk wr A (ints .u8 (List.replicate 32 0)) 26 ∧ MsgAt w2.heap.size b' off m wr ∧ Ext w wr) (fun iv _ => 8 - (intOf iv).toNat)
                  case atStart => exact ⟨0, by omega, rfl, HVB.out, H2.out, H1.out, HE2.out, HE.out⟩
                  case round =>
                    clear HVB H2 H1 HE2 HE
                    obtain ⟨j, hj, rfl, hbv, hb2, hb1, he2, hbel⟩ := hrel
                    have j0 : (0 : Int) ≤ (j : Int) := Int.natCast_nonneg _
                    by_cases hj8 : j < 8
                    · have j1 : (j : Int) < 8 := by omega
                      have e1 := blk_w hb2 (j := j) (by rw [hAdd_length, HH8.out]; exact hj8)
                      have e2 := blk_w hbv (j := j) (by rw [HVL.out]; exact hj8)
                      have f1 := hb2.free j
                      have HST : Hid (ws (hAdd h vv (j + 1)) = (ws (hAdd h vv j)).set j (wi ((hAdd h vv j).getD j 0#32 + vv.getD j 0#32))) := Lib.hid (by rw [ws_set, hAdd])
                      generalize (hAdd h vv j).getD j 0#32 = p1 at *
                      generalize vv.getD j 0#32 = p2 at *
                      have q1 : (wi p1 + wi p2) % 4294967296 = wi (p1 + p2) := by rw [← wi_add, IntKind.wrap_u32]
                      have HQ1 := Lib.hid q1
                      have HVB := Lib.hid hbv
                      have H1 := Lib.hid hb1
                      have H2 := Lib.hid hb2
                      have HE := Lib.hid hbel
                      have HE2 := Lib.hid he2
                      clear hbv hb1 hb2 hbel he2 q1
                      go_wp2_with fail
                      go_region
                      go_wp2_with fail
                      go_roundw
                      case rel =>
                        refine ⟨j + 1, by omega, by go_num, (HVB.out.far (by have := HAE.out; simp; omega) _).drewN 1, ?_, (H1.out.far (by simp <;> omega) _).drewN 1, (HE2.out.far (by have := HBA.out; simp; omega) _).drew, (Below.setCell HE.out (by simp <;> omega) _).drew⟩
                        rw [HST.out, ← HQ1.out]
                        exact (H2.out.seti j _).drewN 1
                      case measure => simp [intOf]; omega
                    · have hj9 : j = 8 := by omega
                      subst hj9
                      rw [← HHR.out] at hb2
                      have H1 := Lib.hid hb1
                      have H2 := Lib.hid hb2
                      have HE := Lib.hid hbel
                      have HE2 := Lib.hid he2
                      clear hbv hb1 hb2 hbel he2
                      go_wp2_with fail
                      go_roundw
                      case rel => exact ⟨n + 1, by omega, by rw [show 64 * (n : Int) + 64 = 64 * ((n + 1 : Nat) : Int) from by omega], H2.out, H1.out, HE2.out, HE.out⟩
                      case measure => simp [intOf]; omega
    · have hnN : n = N := by omega
      have hnN2 : (64 : Int) * (n : Int) = 64 * (N : Int) := by omega
      rw [hnN2]
      clear hnN2
      have HRR : Hid (outB (hRun m N) = sha256 b) := Lib.hid (by rw [HM.out, HN.out]; rfl)
      subst hnN
      have HR8 := Lib.hid (hRun_length m n)
      generalize hRun m n = R at *
      have HFZ := Lib.hid (Blk.made wr (ints .u8 (List.replicate 32 0)) 26)
      have H1L := Lib.hid hb1.lt
      have H2L := Lib.hid hb2.lt
      have K1 := Lib.hid (hb1.alloc (.cells (ints .u8 (List.replicate 32 0)).toArray 26))
      have K2 := Lib.hid (hb2.alloc (.cells (ints .u8 (List.replicate 32 0)).toArray 26))
      have HS := Lib.hid hbel.size
      have KE := Lib.hid (hbel.trans (Ext.alloc wr (.cells (ints .u8 (List.replicate 32 0)).toArray 26)))
      clear hb1 hb2 hbel he2
      go_upto_region 32 with (fail)
      change Code.wp _ _ _ _ (wr.alloc (.cells (ints .u8 (List.replicate 32 0)).toArray 26))
      generalize wr.alloc (.cells (ints .u8 (List.replicate 32 0)).toArray 26) = wf at *
      have HAF : Hid (A + 1 < wr.heap.size) := H2L
      generalize wr.heap.size = F at *
      obtain ⟨o, ho⟩ : ∃ o, o = outB R := ⟨_, rfl⟩
      have HOL : Hid (o.length = 32) := Lib.hid (by rw [ho, outB_length])
      have HOO := Lib.hid ho
      have HOS : Hid (o = sha256 b) := Lib.hid (by rw [ho]; exact HRR.out)
      clear ho HRR H1L H2L
      go_wp2_with fail
      go_loopw [20] (fun iv wr => ∃ (j : Nat), j ≤ 32 ∧ iv = .int .i64 (j : Int) ∧ Blk wr F ((fill 32 o j).map bval) 26 ∧ Blk wr (A + 1) (ints .u32 (ws R)) 48 ∧ Blk wr A (ints .u8 (List.replicate 32 0)) 26 ∧ Ext w wr) (fun iv _ => 32 - (intOf iv).toNat)
      case atStart => exact ⟨0, by omega, rfl, by rw [fill_start]; exact HFZ.out, K2.out, K1.out, KE.out⟩
      case round =>
        clear HFZ K2 K1 KE
        obtain ⟨j, hj, rfl, hbf, hb2, hb1, hbel⟩ := hrel
        have j0 : (0 : Int) ≤ (j : Int) := Int.natCast_nonneg _
        by_cases hj32 : j < 32
        · have j1 : (j : Int) < 32 := by omega
          obtain ⟨q, hq⟩ : ∃ q : Nat, q = j / 4 := ⟨_, rfl⟩
          obtain ⟨r, hr⟩ : ∃ r : Nat, r = j % 4 := ⟨_, rfl⟩
          obtain ⟨s, hs⟩ : ∃ s : Nat, s = 24 - 8 * r := ⟨_, rfl⟩
          have hq1 : (j : Int) / 4 = (q : Int) := by omega
          have hr1 : (j : Int) % 4 = (r : Int) := by omega
          have hs1 : 24 - 8 * (r : Int) = (s : Int) := by omega
          have hq8 : (q : Int) < 8 := by omega
          have q0 : (0 : Int) ≤ (q : Int) := Int.natCast_nonneg _
          have r0 : (0 : Int) ≤ (r : Int) := Int.natCast_nonneg _
          have r4 : (r : Int) < 4 := by omega
          have s0 : (0 : Int) ≤ (s : Int) := Int.natCast_nonneg _
          have s25 : (s : Int) ≤ 24 := by omega
          have e1 := blk_w hb2 (j := q) (by rw [HR8.out]; omega)
          have hof := outB_getD R j hj32
          rw [← hq, ← hr, ← hs, ← HOO.out] at hof
          generalize R.getD q 0#32 = x at *
          have hxr := wi_range x
          have e2 := hbf.cell j
          rw [bval_get (by rw [fill_length HOL.out (by omega)]; exact hj32)] at e2
          have f2 := hbf.free j
          have HFS : ∀ z : Int, z = ((o.getD j 0).toNat : Int) → _ := fun z hz => fill_set_val HOL.out hj32 hz
          have HFS := Lib.hid HFS
          have hza : bits .and .u32 (wi x / 2 ^ s) 255 % 256 = ((o.getD j 0).toNat : Int) := by
            rw [hof, UInt8.toNat_ofNat', wi_shr, sha_and_u32_255]
            rw [BitVec.toNat_ushiftRight, Nat.shiftRight_eq_div_pow]
            omega
          have HZA := Lib.hid hza
          have HF := Lib.hid hbf
          have H1 := Lib.hid hb1
          have H2 := Lib.hid hb2
          have HE := Lib.hid hbel
          clear hbf hb1 hb2 hbel hof hza hq hr hs
          generalize ((fill 32 o j).getD j 0) = z2 at *
          generalize wi x = zx at *
          go_wp2_with fail
          go_roundw
          case rel =>
            refine ⟨j + 1, by omega, by go_num, ?_, H2.out.far (by have := HAF.out; simp; omega) _, H1.out.far (by have := HAF.out; simp; omega) _, Below.setCell HE.out (by have := HAF.out; simp; omega) _⟩
            rw [← HFS.out _ HZA.out]
            exact HF.out.set j _
          case measure => simp [intOf]; omega
        · have hj9 : j = 32 := by omega
          subst hj9
          rw [fill_full HOL.out] at hbf
          have H1 := Lib.hid hb1
          have HF := Lib.hid hbf
          have HE := Lib.hid hbel
          clear hbf hb1 hb2 hbel
          have HIo : Hid ((Tryd.prog.info? 26).map (·.size) = some (o.map bval).length) := Lib.hid (num_size HOL.out)
          have HLo : Hid ((o.map bval).length = (ints .u8 (List.replicate 32 0)).length) := Lib.hid (by rw [List.length_map, HOL.out, ints_length, List.length_replicate])
          go_wp2_with (first | (refine wpList_load_blk rfl _ _ rfl F rfl _ _ _ _ HF.out Tryd.underlying26 HIo.out ?_) | (refine wpList_store_blk rfl _ _ _ rfl A (o.map bval) rfl rfl _ _ H1.out HLo.out HIo.out (bval_one _) ?_; intro w7 hb7 hg7))
          refine bodyPost_ret (result_blk rfl _ A _ _ _ _ rfl hb7 Tryd.underlying26 HIo.out) rfl ?_
          exact ⟨by rw [HOS.out], ext_grown HE.out hg7 (by omega)⟩
end Go.Proofs.YtcadfccijeodbaaDoor
