/- Texts that belong together, one behind the other; each says in its own first remark what it shows. -/
import Derived.Test.YtcadfccijeodbaaDoorAll1
import Derived.Deep.CutRange
import Derived.Deep.RegionWith
import Derived.StillTailTactics
import Derived.Deep.QuietTactic
import Derived.BigQuiet
import Derived.Lib.Strings
import Derived.Lib.Slices
import Derived.Lib.Small
import Derived.Lib.Walk
import Derived.Lib.BitFns
import Derived.Laws.Slices
import Derived.Deep.MidRow
import Derived.Great.BuildSlice
import Derived.Deep.RegionHeld
import Derived.Laws.Tables
import Derived.Laws.AppendOwn
import Derived.Test.YtcadfccijeodbaaDoorProg
import Derived.ProofKit

/- The walk of the document's own Sha. Each theorem names its own conditions. -/
namespace Go.Proofs.YtcadfccijeodbaaDoor
open Go.RowKit
set_option linter.unusedVariables false
set_option linter.unusedSimpArgs false

/-- The variable k256 reads as the text lays it. -/
def GlobK (w : World) : Prop := w.rangeAt 0 0 (ints .u32 (ws K256))
theorem GlobK.ext {w w' : World} (h : GlobK w) (hb : Ext w w') : GlobK w' := glob_ext h hb
theorem GlobK.cell {w : World} (h : GlobK w) {j : Nat} (hj : j < 64) : w.cell? ⟨0, j, none⟩ = some (.int .u32 (wi (K256.getD j 0#32))) := by
  have := h j (.int .u32 (wi (K256.getD j 0#32))) (by rw [ints_get (by rw [ws_length]; exact hj), ws_getD])
  simpa using this
set_option maxRecDepth 100000 in
set_option maxHeartbeats 8000000 in
theorem rSha_any (v : Value) (b : List UInt8) (w : World) (hv : Row1 w v (b.map bval)) (hb : b.length ≤ 1099511627776) (hG : GlobK w) :
    Calls Tryd.prog 22 #[v] w fun e w' => e = .returned (.agg ((sha256 b).map bval).toArray) ∧ Below w.heap.size w w' := by
  have HRW := Lib.hid hv
  have HG := Lib.hid hG
  have HB := Lib.hid (boxes2 w (ints .u8 (List.replicate 32 0)) (ints .u32 (List.replicate 8 0)) 26 48)
  have HBL := Lib.hid hb
  clear hv hG hb
  go_enter Tryd.func22, Tryd.ntmps22
  go_wp2_with (refine wpList_store_blk rfl _ _ _ rfl (w.heap.size + 1) (ints .u32 (ws H256)) rfl rfl _ _ HB.out.2.1 rfl (by rw [ints_length]; exact Tryd.arr48) (ints_one _ _) ?_; intro w1 hb1 hg1)
  have H1 := HB.out.1.grown hg1 (by simp)
  have HE := ext_grown HB.out.2.2 hg1 (by omega)
  have H2 := hb1
  obtain ⟨A, hA⟩ : ∃ A, A = w.heap.size := ⟨_, rfl⟩
  rw [← hA] at H1 H2 ⊢
  have hA2 : w.heap.size ≤ A := by omega
  have HP := Lib.hid (padded_any v b w1 (HRW.out.below HE) HBL.out)
  have H1 := Lib.hid H1
  have H2 := Lib.hid H2
  have HE := Lib.hid HE
  clear hA hb1 hg1 HB
  refine HP.out.mono ?_
  rintro e w2 ⟨mv, rfl, hrow, hb2⟩
  have H1 := Lib.hid (ext_blk H1.out hb2)
  have H2 := Lib.hid (ext_blk H2.out hb2)
  have HE := Lib.hid (HE.out.trans hb2)
  have hpl := padded_length b
  obtain ⟨m, hm⟩ : ∃ m, m = padded b := ⟨_, rfl⟩
  obtain ⟨N, hN⟩ : ∃ N, N = (b.length + 72) / 64 := ⟨_, rfl⟩
  have HM := Lib.hid hm
  have HN := Lib.hid hN
  rw [← hm] at hrow hpl
  rw [← hN] at hpl
  have HR := Lib.hid hrow
  obtain ⟨a, cap, rfl, r1, r2, r3, r4⟩ := id hrow
  rw [List.length_map, hpl] at r1 HR ⊢
  unfold maxLen at r2
  obtain ⟨b', off, rfl, hbs, hcell⟩ := r4 (by intro e; have h := congrArg List.length e; rw [List.length_map, hpl] at h; simp only [List.length_nil] at h; omega)
  have hms : MsgAt w2.heap.size b' off m w2 := ⟨hbs, Nat.le_refl _, fun j hj => by rw [hcell j (by rw [List.length_map]; exact hj), bval_get hj]⟩
  have hbA : b' ≠ A + 1 := by
    rintro rfl
    have h1 := hms.2.2 0 (by omega)
    rw [H2.out.cell] at h1
    exact (not_bytes (by decide)) h1
  have HBA := Lib.hid hbA
  have HMS := Lib.hid hms
  have HBS := Lib.hid hbs
  have hNb : N ≤ 17179869300 := by have := HBL.out; omega
  have HML := Lib.hid hpl
  clear hb2 hrow hm hN hpl r3 r4 HP HRW hms hcell hbA hbs
  go_wp2_with fail
  go_loopw [5] (fun iv wr => ∃ (n : Nat), n ≤ N ∧ iv = .int .i64 (64 * (n : Int)) ∧ Blk wr (A + 1) (ints .u32 (ws (hRun m n))) 48 ∧ Blk wr A (ints .u8 (List.replicate 32 0)) 26 ∧ MsgAt w2.heap.size b' off m wr ∧ Ext w wr) (fun iv _ => 64 * N - (intOf iv).toNat)
  case atStart => exact ⟨0, by omega, rfl, H2.out, H1.out, HMS.out, HE.out⟩
  case round =>
    clear H1 H2 HE
    obtain ⟨n, hn, rfl, hb2, hb1, he2, hbel⟩ := hrel
    have n0 : (0 : Int) ≤ 64 * (n : Int) := by omega
    by_cases hlt : n < N
    · have n1 : 64 * (n : Int) < 64 * (N : Int) := by omega
      have H1 := Lib.hid hb1
      have H2 := Lib.hid hb2
      have HE := Lib.hid hbel
      have HE2 := Lib.hid he2
      clear hb1 hb2 hbel he2
      have HZ := Lib.hid (Blk.made wr (ints .u32 (List.replicate 64 0)) 62)
      have hDA := H2.out.lt
      have H1 := Lib.hid (H1.out.alloc (.cells (ints .u32 (List.replicate 64 0)).toArray 62))
      have H2 := Lib.hid (H2.out.alloc (.cells (ints .u32 (List.replicate 64 0)).toArray 62))
      have HE2' := HE2.out.2.1
      have HE := Lib.hid (HE.out.trans (Ext.alloc wr (.cells (ints .u32 (List.replicate 64 0)).toArray 62)))
      have HE2 := Lib.hid (HE2.out.ext (Ext.alloc wr (.cells (ints .u32 (List.replicate 64 0)).toArray 62)))
      have hD2 : w2.heap.size ≤ wr.heap.size := HE2'
      clear HE2'
      go_upto_region 7 with (fail)
      change Code.wp _ _ _ _ (wr.alloc (.cells (ints .u32 (List.replicate 64 0)).toArray 62))
      generalize wr.alloc (.cells (ints .u32 (List.replicate 64 0)).toArray 62) = w3 at *
      generalize wr.heap.size = D at *
      go_wp2_with fail
      go_loopw [7] (fun iv wr => ∃ (k : Nat), k ≤ 16 ∧ iv = .int .i64 (k : Int) ∧ Blk wr D (ints .u32 (ws (wTop m (64 * n) k))) 62 ∧ Blk wr (A + 1) (ints .u32 (ws (hRun m n))) 48 ∧ Blk wr A (ints .u8 (List.replicate 32 0)) 26 ∧ MsgAt w2.heap.size b' off m wr ∧ Ext w wr) (fun iv _ => 16 - (intOf iv).toNat)
      case atStart => exact ⟨0, by omega, rfl, by rw [wTop, ws_zeros]; exact HZ.out, H2.out, H1.out, HE2.out, HE.out⟩
      case round =>
        clear H1 H2 HE HE2 HZ
        obtain ⟨k, hk, rfl, hbw, hb2, hb1, he2, hbel⟩ := hrel
        have k0 : (0 : Int) ≤ (k : Int) := Int.natCast_nonneg _
        have hwl := wTop_length m (64 * n) k
        by_cases hlk : k < 16
        · have k1 : (k : Int) < 16 := by omega
          have k64 : (k : Int) < 64 := by omega
          obtain ⟨p, hp⟩ : ∃ p : Nat, p = 64 * n + 4 * k := ⟨_, rfl⟩
          have hp1 : 64 * (n : Int) + 4 * (k : Int) = (p : Int) := by omega
          have hN1 : ((64 * N : Nat) : Int) = 64 * (N : Int) := by omega
          have hpm : p + 3 < m.length := by rw [HML.out]; omega
          have hpN : p + 3 < 64 * N := by omega
          have cc : ∀ j, j ≤ 3 → wr.cell? ⟨b', off + (p + j), none⟩ = some (.int .u8 ((m.getD (p + j) 0).toNat : Int)) := fun j hj => by
            exact he2.2.2 (p + j) (by omega)
          have c0 := cc 0 (by omega)
          have c1 := cc 1 (by omega)
          have c2 := cc 2 (by omega)
          have c3 := cc 3 (by omega)
          simp only [Nat.add_zero] at c0
          have d0 := UInt8.toNat_lt (m.getD p 0)
          have d1 := UInt8.toNat_lt (m.getD (p + 1) 0)
          have d2 := UInt8.toNat_lt (m.getD (p + 2) 0)
          have d3 := UInt8.toNat_lt (m.getD (p + 3) 0)
          have HBE : Hid (beW m p = BitVec.ofNat 32 (16777216 * (m.getD p 0).toNat + 65536 * (m.getD (p + 1) 0).toNat + 256 * (m.getD (p + 2) 0).toNat + (m.getD (p + 3) 0).toNat)) := Lib.hid rfl
          generalize (m.getD p 0).toNat = x0 at *
          generalize (m.getD (p + 1) 0).toNat = x1 at *
          generalize (m.getD (p + 2) 0).toNat = x2 at *
          generalize (m.getD (p + 3) 0).toNat = x3 at *
          have e1 := hbw.cell k
          rw [ints_get (by rw [ws_length]; omega)] at e1
          have f1 := hbw.free k
          generalize (ws (wTop m (64 * n) k)).getD k 0 = u at e1
          have p0 : (p : Int) + 3 < 64 * (N : Int) := by omega
          have p1 : (p : Int) < 64 * (N : Int) := by omega
          have p2 : (p : Int) + 1 < 64 * (N : Int) := by omega
          have p3 : (p : Int) + 2 < 64 * (N : Int) := by omega
          have q0 : (0 : Int) ≤ (p : Int) + 1 ∧ (0 : Int) ≤ (p : Int) + 2 ∧ (0 : Int) ≤ (p : Int) + 3 := by omega
          have HST : Hid (wTop m (64 * n) (k + 1) = (wTop m (64 * n) k).set k (beW m p)) := Lib.hid (by rw [hp]; rfl)
          have HWB := Lib.hid hbw
          have H1 := Lib.hid hb1
          have H2 := Lib.hid hb2
          have HE := Lib.hid hbel
          have HE2 := Lib.hid he2
          have HP := Lib.hid hp
          clear hbw hb1 hb2 hbel he2 hwl cc hp hN1
          go_upto_region 11 with (fail)
          clear hp1
          go_region
          go_wp2_with fail
          go_roundw
          case rel =>
            refine ⟨k + 1, by omega, by go_num, ?_, (H2.out.far (by simp <;> omega) _).drewN 1, (H1.out.far (by simp <;> omega) _).drewN 1, (HE2.out.far (by have := HBS.out; simp; omega) _).drew, (Below.setCell HE.out (by simp <;> omega) _).drew⟩
            · rw [HST.out, ← ws_set, HBE.out, ← or4 x0 x1 x2 x3 d0 d1 d2 d3]
              exact (HWB.out.seti k _).drewN 1
          case measure => simp [intOf]; omega
        · have hk16 : k = 16 := by omega
          have hk17 : (k : Int) = 16 := by omega
          rw [hk17]
          clear hk17
          subst hk16
          have hw0 : wTop m (64 * n) 16 = wSch m (64 * n) 0 := rfl
          rw [hw0] at hbw
          have HWB := Lib.hid hbw
          have H1 := Lib.hid hb1
          have H2 := Lib.hid hb2
          have HE := Lib.hid hbel
          have HE2 := Lib.hid he2
          clear hbw hb1 hb2 hbel he2 hwl hw0
          go_wp2_with fail
          obtain ⟨wo, rfl⟩ : ∃ wo : World, wo = wr := ⟨_, rfl⟩
          go_loopw [9] (fun iv wr => ∃ (q : Nat), q ≤ 48 ∧ iv = .int .i64 ((16 + q : Nat) : Int) ∧ Blk wr D (ints .u32 (ws (wSch m (64 * n) q))) 62 ∧ Blk wr (A + 1) (ints .u32 (ws (hRun m n))) 48 ∧ Blk wr A (ints .u8 (List.replicate 32 0)) 26 ∧ MsgAt w2.heap.size b' off m wr ∧ Ext w wr) (fun iv _ => 64 - (intOf iv).toNat)
          case atStart => exact ⟨0, by omega, rfl, HWB.out, H2.out, H1.out, HE2.out, HE.out⟩
          case round =>
            clear H1 H2 HE HE2 HWB
            obtain ⟨q, hq, rfl, hbw, hb2, hb1, he2, hbel⟩ := hrel
            by_cases hlq : q < 48
            · obtain ⟨i, hi⟩ : ∃ i : Nat, i = 16 + q := ⟨_, rfl⟩
              rw [← hi]
              have i0 : (16 : Int) ≤ (i : Int) := by omega
              have i1 : (i : Int) < 64 := by omega
              have hwl := wSch_length m (64 * n) q
              obtain ⟨j16, hj16⟩ : ∃ j : Nat, j = i - 16 := ⟨_, rfl⟩
              obtain ⟨j15, hj15⟩ : ∃ j : Nat, j = i - 15 := ⟨_, rfl⟩
              obtain ⟨j7, hj7⟩ : ∃ j : Nat, j = i - 7 := ⟨_, rfl⟩
              obtain ⟨j2, hj2⟩ : ∃ j : Nat, j = i - 2 := ⟨_, rfl⟩
              have g16 : (i : Int) - 16 = (j16 : Int) := by omega
              have g15 : (i : Int) - 15 = (j15 : Int) := by omega
              have g7 : (i : Int) - 7 = (j7 : Int) := by omega
              have g2 : (i : Int) - 2 = (j2 : Int) := by omega
              have l16 : (j16 : Int) < 64 := by omega
              have l15 : (j15 : Int) < 64 := by omega
              have l7 : (j7 : Int) < 64 := by omega
              have l2 : (j2 : Int) < 64 := by omega
              have e16 := hbw.cell j16
              rw [ints_get (by rw [ws_length]; omega), ws_getD] at e16
              have e15 := hbw.cell j15
              rw [ints_get (by rw [ws_length]; omega), ws_getD] at e15
              have e7 := hbw.cell j7
              rw [ints_get (by rw [ws_length]; omega), ws_getD] at e7
              have e2 := hbw.cell j2
              rw [ints_get (by rw [ws_length]; omega), ws_getD] at e2
              have e0 := hbw.cell i
              rw [ints_get (by rw [ws_length]; omega), ws_getD] at e0
              have f0 := hbw.free i
              have HST : Hid (wSch m (64 * n) (q + 1) = (wSch m (64 * n) q).set i ((wSch m (64 * n) q).getD j16 0#32 + sg0 ((wSch m (64 * n) q).getD j15 0#32) + (wSch m (64 * n) q).getD j7 0#32 + sg1 ((wSch m (64 * n) q).getD j2 0#32))) := Lib.hid (by rw [hi, hj16, hj15, hj7, hj2, hi]; rfl)
              generalize (wSch m (64 * n) q).getD j16 0#32 = y16 at *
              generalize (wSch m (64 * n) q).getD j15 0#32 = y15 at *
              generalize (wSch m (64 * n) q).getD j7 0#32 = y7 at *
              generalize (wSch m (64 * n) q).getD j2 0#32 = y2 at *
              generalize (wSch m (64 * n) q).getD i 0#32 = y0 at *
              have HWB := Lib.hid hbw
              have H1 := Lib.hid hb1
              have H2 := Lib.hid hb2
              have HE := Lib.hid hbel
              have HE2 := Lib.hid he2
              have HI := Lib.hid hi
              clear hbw hb1 hb2 hbel he2 hwl hi hj16 hj15 hj7 hj2 hq
              go_wp2_with fail
              have w16 : IntKind.i64.wrap (j16 : Int) = (j16 : Int) := IntWalk.i64_in _ (by omega)
              have w7 : IntKind.i64.wrap (j7 : Int) = (j7 : Int) := IntWalk.i64_in _ (by omega)
              have z16 : (0 : Int) ≤ (j16 : Int) := Int.natCast_nonneg _
              have z7 : (0 : Int) ≤ (j7 : Int) := Int.natCast_nonneg _
              go_still_tail 29, (by kernel_rfl)
              still_call ((ror_any _ 7 (by omega) _).mono fun _ _ h => ⟨h.1, h.2.symm⟩)
              repeat still_step
              still_call ((ror_any _ 18 (by omega) _).mono fun _ _ h => ⟨h.1, h.2.symm⟩)
              repeat still_step
              still_call ((ror_any _ 17 (by omega) _).mono fun _ _ h => ⟨h.1, h.2.symm⟩)
              repeat still_step
              still_call ((ror_any _ 19 (by omega) _).mono fun _ _ h => ⟨h.1, h.2.symm⟩)
              repeat still_step
              try refine wpStill_nil ?_
              change wpList _ _ _ _ _ wr.drew
              have e0d : (wr.drew).cell? ⟨D, i, none⟩ = some (.int .u32 (wi y0)) := e0
              have f0d : (wr.drew).frozen? ⟨D, i, none⟩ = false := f0
              have HWB : Hid (Blk wr.drew D _ _) := Lib.hid HWB.out
              have H1 : Hid (Blk wr.drew A _ _) := Lib.hid H1.out
              have H2 : Hid (Blk wr.drew (A + 1) _ _) := Lib.hid H2.out
              have HE : Hid (Ext w wr.drew) := Lib.hid (HE.out.trans (Ext.drew wr))
              have HE2 : Hid (MsgAt w2.heap.size b' off m wr.drew) := Lib.hid (HE2.out.ext (Ext.drew wr))
              clear e0 f0
              generalize wr.drew = w4 at *
              have z0 : (0 : Int) ≤ (i : Int) := by omega
              have x1 : bits .xor .u32 (bits .xor .u32 (wi (rotr y15 7)) (wi (rotr y15 18))) (wi y15 / 8) = wi (sg0 y15) := by rw [show (8 : Int) = 2 ^ 3 from rfl, wi_shr, wi_xor, wi_xor]; rfl
              have x2 : bits .xor .u32 (bits .xor .u32 (wi (rotr y2 17)) (wi (rotr y2 19))) (wi y2 / 1024) = wi (sg1 y2) := by rw [show (1024 : Int) = 2 ^ 10 from rfl, wi_shr, wi_xor, wi_xor]; rfl
              have HX1 := Lib.hid x1
              have HX2 := Lib.hid x2
              clear x1 x2 w16 w7 z16 z7
              have HWS : Hid ((wi y16 + wi (sg0 y15) + wi y7 + wi (sg1 y2)) % 4294967296 = wi (y16 + sg0 y15 + y7 + sg1 y2)) := Lib.hid (by rw [← wi_add, ← wi_add, ← wi_add, IntKind.wrap_u32, IntKind.wrap_u32, IntKind.wrap_u32]; omega)
              rw [HX1.out, HX2.out]
              go_wp2_with fail
              go_roundw
              case rel =>
                refine ⟨q + 1, by omega, by have := HI.out; subst this; go_num, ?_, H2.out.far (by simp <;> omega) _, H1.out.far (by simp <;> omega) _, HE2.out.far (by have := HBS.out; simp; omega) _, Below.setCell HE.out (by simp <;> omega) _⟩
                rw [HST.out, ← ws_set, ← HWS.out]
                exact HWB.out.seti i _
              case measure => simp [intOf]; omega
            · have hq48 : q = 48 := by omega
              subst hq48
              have HWB := Lib.hid hbw
              have H1 := Lib.hid hb1
              have H2 := Lib.hid hb2
              have HE := Lib.hid hbel
              have HE2 := Lib.hid he2
              have HHR : Hid (hRun m (n + 1) = hAdd (hRun m n) (vRun (hRun m n) (wSch m (64 * n) 48) 64) 8) := Lib.hid rfl
              have HH8 := Lib.hid (hRun_length m n)
              have HW64 := Lib.hid (wSch_length m (64 * n) 48)
              clear hbw hb2 hb1 he2 hbel
              generalize wSch m (64 * n) 48 = W at *
              generalize hRun m n = h at *
              have HIh : Hid ((Tryd.prog.info? 48).map (·.size) = some (ints .u32 (ws h)).length) := Lib.hid (by rw [ints_length, ws_length, HH8.out]; exact Tryd.arr48)
              have HEZ := Lib.hid (Blk.made wr (ints .u32 (List.replicate 8 0)) 48)
              have HWL := Lib.hid HWB.out.lt
              have H1L := Lib.hid H1.out.lt
              have H2L := Lib.hid H2.out.lt
              have K1 := Lib.hid (H1.out.alloc (.cells (ints .u32 (List.replicate 8 0)).toArray 48))
              have K2 := Lib.hid (H2.out.alloc (.cells (ints .u32 (List.replicate 8 0)).toArray 48))
              have KW := Lib.hid (HWB.out.alloc (.cells (ints .u32 (List.replicate 8 0)).toArray 48))
              have HS := Lib.hid HE.out.size
              have HS2 := Lib.hid HE2.out.2.1
              have KE := Lib.hid (HE.out.trans (Ext.alloc wr (.cells (ints .u32 (List.replicate 8 0)).toArray 48)))
              have KE2 := Lib.hid (HE2.out.ext (Ext.alloc wr (.cells (ints .u32 (List.replicate 8 0)).toArray 48)))
              have HLh : Hid ((ints .u32 (ws h)).length = (ints .u32 (List.replicate 8 0)).length) := Lib.hid (by rw [ints_length, ws_length, HH8.out, ints_length, List.length_replicate])
              go_upto_region 19 with (first | (refine wpList_load_blk rfl _ _ rfl (A + 1) rfl _ _ _ _ H2.out Tryd.underlying48 HIh.out ?_) | (refine wpList_store_blk rfl _ _ _ rfl wr.heap.size (ints .u32 (ws h)) rfl rfl _ _ HEZ.out HLh.out HIh.out (ints_one _ _) ?_; intro wq hbq hgq))
              have H1 := Lib.hid (K1.out.grown hgq (by have := H1L.out; simp; omega))
              have H2 := Lib.hid (K2.out.grown hgq (by have := H2L.out; simp; omega))
              have HWB := Lib.hid (KW.out.grown hgq (by have := HWL.out; simp; omega))
              have HE := Lib.hid (ext_grown KE.out hgq HS.out)
              have HE2 := Lib.hid (KE2.out.grown hgq (by have := HBS.out; have := HS2.out; simp; omega))
              have HVB := Lib.hid hbq
              have HDE : Hid (D < wr.heap.size) := HWL
              have HAE : Hid (A + 1 < wr.heap.size) := H2L
              generalize wr.heap.size = E at *
              clear hbq hgq HEZ H1L H2L K1 K2 KW KE KE2 HLh HS
              go_wp2_with fail
              obtain ⟨wo, rfl⟩ : ∃ wo : World, wo = wq := ⟨_, rfl⟩
              go_loopw [13] (fun iv wr => ∃ (k : Nat), k ≤ 64 ∧ iv = .int .i64 (k : Int) ∧ Blk wr E (ints .u32 (ws (vRun h W k))) 48 ∧ Blk wr D (ints .u32 (ws W)) 62 ∧ Blk wr (A + 1) (ints .u32 (ws h)) 48 ∧ Blk wr A (ints .u8 (List.replicate 32 0)) 26 ∧ MsgAt w2.heap.size b' off m wr ∧ Ext w wr) (fun iv _ => 64 - (intOf iv).toNat)
              case atStart => exact ⟨0, by omega, rfl, HVB.out, HWB.out, H2.out, H1.out, HE2.out, HE.out⟩
              case round =>
                clear HVB HWB H1 H2 HE HE2
                obtain ⟨k, hk, rfl, hbv, hbw, hb2, hb1, he2, hbel⟩ := hrel
                have HVB := Lib.hid hbv
                have HWB := Lib.hid hbw
                have H1 := Lib.hid hb1
                have H2 := Lib.hid hb2
                have HE := Lib.hid hbel
                have HE2 := Lib.hid he2
                have HVL := Lib.hid (vRun_length h W HH8.out k)
                have k0 : (0 : Int) ≤ (k : Int) := Int.natCast_nonneg _
                clear hbv hbw hb2 hb1 he2 hbel
                by_cases hlr : k < 64
                · have kr : (k : Int) < 64 := by omega
                  have HWK : Hid (∀ w', Blk w' D (ints .u32 (ws W)) 62 → w'.cell? ⟨D, k, none⟩ = some (.int .u32 (wi (W.getD k 0#32)))) := Lib.hid (fun w' h => blk_w h (by rw [HW64.out]; exact hlr))
                  have HKK : Hid (∀ w', Ext wr w' → w'.cell? ⟨0, k, none⟩ = some (.int .u32 (wi (K256.getD k 0#32)))) := Lib.hid (fun w' h => (HG.out.ext (HE.out.trans h)).cell hlr)
                  have HRN : Hid (vRun h W (k + 1) = rnd (vRun h W k) (K256.getD k 0#32) (W.getD k 0#32)) := Lib.hid rfl
                  unfold rnd at HRN
                  generalize K256.getD k 0#32 = kk at *
                  generalize W.getD k 0#32 = wk at *
                  generalize vRun h W k = vv at *
                  have HVC : Hid (∀ j, j < 8 → ∀ w', Blk w' E (ints .u32 (ws vv)) 48 → ∀ x, x = vv.getD j 0#32 → w'.cell? ⟨E, j, none⟩ = some (.int .u32 (wi x))) := Lib.hid (fun j hj w' hb x hx => by rw [hx]; exact blk_w hb (by rw [HVL.out]; exact hj))
                  have hvb := HVB.out
                  have b0 := blk_w hvb (j := 0) (by rw [HVL.out]; omega)
                  have b1 := blk_w hvb (j := 1) (by rw [HVL.out]; omega)
                  have b2 := blk_w hvb (j := 2) (by rw [HVL.out]; omega)
                  have b3 := blk_w hvb (j := 3) (by rw [HVL.out]; omega)
                  have b4 := blk_w hvb (j := 4) (by rw [HVL.out]; omega)
                  have b5 := blk_w hvb (j := 5) (by rw [HVL.out]; omega)
                  have b6 := blk_w hvb (j := 6) (by rw [HVL.out]; omega)
                  have b7 := blk_w hvb (j := 7) (by rw [HVL.out]; omega)
                  obtain ⟨v0, hv0⟩ : ∃ x, x = vv.getD 0 0#32 := ⟨_, rfl⟩
                  have HVE0 := Lib.hid hv0
                  rw [← hv0] at b0 HRN
                  clear hv0
                  obtain ⟨v1, hv1⟩ : ∃ x, x = vv.getD 1 0#32 := ⟨_, rfl⟩
                  have HVE1 := Lib.hid hv1
                  rw [← hv1] at b1 HRN
                  clear hv1
                  obtain ⟨v2, hv2⟩ : ∃ x, x = vv.getD 2 0#32 := ⟨_, rfl⟩
                  have HVE2 := Lib.hid hv2
                  rw [← hv2] at b2 HRN
                  clear hv2
                  obtain ⟨v3, hv3⟩ : ∃ x, x = vv.getD 3 0#32 := ⟨_, rfl⟩
                  have HVE3 := Lib.hid hv3
                  rw [← hv3] at b3 HRN
                  clear hv3
                  obtain ⟨v4, hv4⟩ : ∃ x, x = vv.getD 4 0#32 := ⟨_, rfl⟩
                  have HVE4 := Lib.hid hv4
                  rw [← hv4] at b4 HRN
                  clear hv4
                  obtain ⟨v5, hv5⟩ : ∃ x, x = vv.getD 5 0#32 := ⟨_, rfl⟩
                  have HVE5 := Lib.hid hv5
                  rw [← hv5] at b5 HRN
                  clear hv5
                  obtain ⟨v6, hv6⟩ : ∃ x, x = vv.getD 6 0#32 := ⟨_, rfl⟩
                  have HVE6 := Lib.hid hv6
                  rw [← hv6] at b6 HRN
                  clear hv6
                  obtain ⟨v7, hv7⟩ : ∃ x, x = vv.getD 7 0#32 := ⟨_, rfl⟩
                  have HVE7 := Lib.hid hv7
                  rw [← hv7] at b7 HRN
                  clear hv7
                  clear hvb
                  go_wp2_with fail
                  refine wp_region_all (by kernel_rfl) (by kernel_rfl) ?_
                  refine det_index _ _ _ _ E 8 7 (by rfl) rfl rfl rfl Tryd.underlying48 (by omega) (Tryd.sizeOf47) ?_
                  simp only [Act.put, List.setIfInBounds_toArray, List.set_cons_zero, List.set_cons_succ]
                  refine det_cell _ _ E 7 (.int .u32 (wi v7)) (by rfl) rfl rfl (fun w hw => HVC.out 7 (by omega) _ (ext_blk HVB.out hw) _ HVE7.out) (Tryd.isAgg47) ?_
                  simp only [Act.put, List.setIfInBounds_toArray, List.set_cons_zero, List.set_cons_succ]
                  refine det_move _ (.int .u32 (wi v4)) (by rfl) rfl rfl ?_
                  simp only [Act.put, List.setIfInBounds_toArray, List.set_cons_zero, List.set_cons_succ]
                  refine det_call _ _ _ [.int .u32 (wi v4), .int .u64 6] (.int .u32 (wi (rotr v4 6))) (by rfl) rfl Tryd.call34 rfl (fun w hw => ror_ext v4 6 (by omega) w) ?_
                  simp only [Act.put, List.setIfInBounds_toArray, List.set_cons_zero, List.set_cons_succ]
                  refine det_move _ (.int .u32 (wi v4)) (by rfl) rfl rfl ?_
                  simp only [Act.put, List.setIfInBounds_toArray, List.set_cons_zero, List.set_cons_succ]
                  refine det_call _ _ _ [.int .u32 (wi v4), .int .u64 11] (.int .u32 (wi (rotr v4 11))) (by rfl) rfl Tryd.call34 rfl (fun w hw => ror_ext v4 11 (by omega) w) ?_
                  simp only [Act.put, List.setIfInBounds_toArray, List.set_cons_zero, List.set_cons_succ]
                  refine det_xor _ _ _ _ _ _ _ (wi ((rotr v4 6) ^^^ (rotr v4 11))) (by rfl) rfl rfl rfl (wi_xor _ _) ?_
                  simp only [Act.put, List.setIfInBounds_toArray, List.set_cons_zero, List.set_cons_succ]
                  refine det_move _ (.int .u32 (wi v4)) (by rfl) rfl rfl ?_
                  simp only [Act.put, List.setIfInBounds_toArray, List.set_cons_zero, List.set_cons_succ]
                  refine det_call _ _ _ [.int .u32 (wi v4), .int .u64 25] (.int .u32 (wi (rotr v4 25))) (by rfl) rfl Tryd.call34 rfl (fun w hw => ror_ext v4 25 (by omega) w) ?_
                  simp only [Act.put, List.setIfInBounds_toArray, List.set_cons_zero, List.set_cons_succ]
                  refine det_xor _ _ _ _ _ _ _ (wi (((rotr v4 6) ^^^ (rotr v4 11)) ^^^ (rotr v4 25))) (by rfl) rfl rfl rfl (wi_xor _ _) ?_
                  simp only [Act.put, List.setIfInBounds_toArray, List.set_cons_zero, List.set_cons_succ]
                  refine det_add _ _ _ _ _ _ _ (wi (v7 + (((rotr v4 6) ^^^ (rotr v4 11)) ^^^ (rotr v4 25)))) (by rfl) rfl rfl rfl (wi_add _ _) ?_
                  simp only [Act.put, List.setIfInBounds_toArray, List.set_cons_zero, List.set_cons_succ]
                  refine det_move _ (.int .u32 (wi v4)) (by rfl) rfl rfl ?_
                  simp only [Act.put, List.setIfInBounds_toArray, List.set_cons_zero, List.set_cons_succ]
                  refine det_index _ _ _ _ E 8 5 (by rfl) rfl rfl rfl Tryd.underlying48 (by omega) (Tryd.sizeOf47) ?_
                  simp only [Act.put, List.setIfInBounds_toArray, List.set_cons_zero, List.set_cons_succ]
                  refine det_cell _ _ E 5 (.int .u32 (wi v5)) (by rfl) rfl rfl (fun w hw => HVC.out 5 (by omega) _ (ext_blk HVB.out hw) _ HVE5.out) (Tryd.isAgg47) ?_
                  simp only [Act.put, List.setIfInBounds_toArray, List.set_cons_zero, List.set_cons_succ]
                  refine det_and _ _ _ _ _ _ _ (wi (v4 &&& v5)) (by rfl) rfl rfl rfl (wi_and _ _) ?_
                  simp only [Act.put, List.setIfInBounds_toArray, List.set_cons_zero, List.set_cons_succ]
                  refine det_move _ (.int .u32 (wi v4)) (by rfl) rfl rfl ?_
                  simp only [Act.put, List.setIfInBounds_toArray, List.set_cons_zero, List.set_cons_succ]
                  refine det_winot _ _ v4 (by rfl) rfl rfl ?_
                  simp only [Act.put, List.setIfInBounds_toArray, List.set_cons_zero, List.set_cons_succ]
                  refine det_index _ _ _ _ E 8 6 (by rfl) rfl rfl rfl Tryd.underlying48 (by omega) (Tryd.sizeOf47) ?_
                  simp only [Act.put, List.setIfInBounds_toArray, List.set_cons_zero, List.set_cons_succ]
                  refine det_cell _ _ E 6 (.int .u32 (wi v6)) (by rfl) rfl rfl (fun w hw => HVC.out 6 (by omega) _ (ext_blk HVB.out hw) _ HVE6.out) (Tryd.isAgg47) ?_
                  simp only [Act.put, List.setIfInBounds_toArray, List.set_cons_zero, List.set_cons_succ]
                  refine det_and _ _ _ _ _ _ _ (wi ((~~~v4) &&& v6)) (by rfl) rfl rfl rfl (wi_and _ _) ?_
                  simp only [Act.put, List.setIfInBounds_toArray, List.set_cons_zero, List.set_cons_succ]
                  refine det_xor _ _ _ _ _ _ _ (wi ((v4 &&& v5) ^^^ ((~~~v4) &&& v6))) (by rfl) rfl rfl rfl (wi_xor _ _) ?_
                  simp only [Act.put, List.setIfInBounds_toArray, List.set_cons_zero, List.set_cons_succ]
                  refine det_add _ _ _ _ _ _ _ (wi ((v7 + (((rotr v4 6) ^^^ (rotr v4 11)) ^^^ (rotr v4 25))) + ((v4 &&& v5) ^^^ ((~~~v4) &&& v6)))) (by rfl) rfl rfl rfl (wi_add _ _) ?_
                  simp only [Act.put, List.setIfInBounds_toArray, List.set_cons_zero, List.set_cons_succ]
                  refine det_move _ (.int .i64 ((k : Nat) : Int)) (by rfl) rfl rfl ?_
                  simp only [Act.put, List.setIfInBounds_toArray, List.set_cons_zero, List.set_cons_succ]
                  refine det_index _ _ _ _ 0 64 k (by rfl) rfl rfl rfl Tryd.underlying62 (by omega) (Tryd.sizeOf47) ?_
                  simp only [Act.put, List.setIfInBounds_toArray, List.set_cons_zero, List.set_cons_succ]
                  refine det_cell _ _ 0 k (.int .u32 (wi kk)) (by rfl) rfl rfl (fun w hw => HKK.out _ hw) (Tryd.isAgg47) ?_
                  simp only [Act.put, List.setIfInBounds_toArray, List.set_cons_zero, List.set_cons_succ]
                  refine det_add _ _ _ _ _ _ _ (wi (((v7 + (((rotr v4 6) ^^^ (rotr v4 11)) ^^^ (rotr v4 25))) + ((v4 &&& v5) ^^^ ((~~~v4) &&& v6))) + kk)) (by rfl) rfl rfl rfl (wi_add _ _) ?_
                  simp only [Act.put, List.setIfInBounds_toArray, List.set_cons_zero, List.set_cons_succ]
                  refine det_move _ (.int .i64 ((k : Nat) : Int)) (by rfl) rfl rfl ?_
                  simp only [Act.put, List.setIfInBounds_toArray, List.set_cons_zero, List.set_cons_succ]
                  refine det_index _ _ _ _ D 64 k (by rfl) rfl rfl rfl Tryd.underlying62 (by omega) (Tryd.sizeOf47) ?_
                  simp only [Act.put, List.setIfInBounds_toArray, List.set_cons_zero, List.set_cons_succ]
                  refine det_cell _ _ D k (.int .u32 (wi wk)) (by rfl) rfl rfl (fun w hw => HWK.out _ (ext_blk HWB.out hw)) (Tryd.isAgg47) ?_
                  simp only [Act.put, List.setIfInBounds_toArray, List.set_cons_zero, List.set_cons_succ]
                  refine det_add _ _ _ _ _ _ _ (wi ((((v7 + (((rotr v4 6) ^^^ (rotr v4 11)) ^^^ (rotr v4 25))) + ((v4 &&& v5) ^^^ ((~~~v4) &&& v6))) + kk) + wk)) (by rfl) rfl rfl rfl (wi_add _ _) ?_
                  simp only [Act.put, List.setIfInBounds_toArray, List.set_cons_zero, List.set_cons_succ]
                  refine det_assign _ (.int .u32 (wi ((((v7 + (((rotr v4 6) ^^^ (rotr v4 11)) ^^^ (rotr v4 25))) + ((v4 &&& v5) ^^^ ((~~~v4) &&& v6))) + kk) + wk))) (by rfl) rfl rfl ?_
                  simp only [Act.put, List.setIfInBounds_toArray, List.set_cons_zero, List.set_cons_succ]
                  refine det_nil (fun wx hx => ?_)
                  have HVB := Lib.hid (ext_blk HVB.out hx)
                  have HWB := Lib.hid (ext_blk HWB.out hx)
                  have H1 := Lib.hid (ext_blk H1.out hx)
                  have H2 := Lib.hid (ext_blk H2.out hx)
                  have HE2 := Lib.hid (HE2.out.ext hx)
                  have HE := Lib.hid (HE.out.trans hx)
                  clear hx
                  generalize ht : (((v7 + (((rotr v4 6) ^^^ (rotr v4 11)) ^^^ (rotr v4 25))) + ((v4 &&& v5) ^^^ ((~~~v4) &&& v6))) + kk) + wk = t at *
                  have HT := Lib.hid ht
                  clear ht
                  go_wp2_with fail
                  refine wp_region_all (by kernel_rfl) (by kernel_rfl) ?_
                  refine det_move _ (.int .u32 (wi v0)) (by rfl) rfl rfl ?_
                  simp only [Act.put, List.setIfInBounds_toArray, List.set_cons_zero, List.set_cons_succ]
                  refine det_call _ _ _ [.int .u32 (wi v0), .int .u64 2] (.int .u32 (wi (rotr v0 2))) (by rfl) rfl Tryd.call34 rfl (fun w hw => ror_ext v0 2 (by omega) w) ?_
                  simp only [Act.put, List.setIfInBounds_toArray, List.set_cons_zero, List.set_cons_succ]
                  refine det_move _ (.int .u32 (wi v0)) (by rfl) rfl rfl ?_
                  simp only [Act.put, List.setIfInBounds_toArray, List.set_cons_zero, List.set_cons_succ]
                  refine det_call _ _ _ [.int .u32 (wi v0), .int .u64 13] (.int .u32 (wi (rotr v0 13))) (by rfl) rfl Tryd.call34 rfl (fun w hw => ror_ext v0 13 (by omega) w) ?_
                  simp only [Act.put, List.setIfInBounds_toArray, List.set_cons_zero, List.set_cons_succ]
                  refine det_xor _ _ _ _ _ _ _ (wi ((rotr v0 2) ^^^ (rotr v0 13))) (by rfl) rfl rfl rfl (wi_xor _ _) ?_
                  simp only [Act.put, List.setIfInBounds_toArray, List.set_cons_zero, List.set_cons_succ]
                  refine det_move _ (.int .u32 (wi v0)) (by rfl) rfl rfl ?_
                  simp only [Act.put, List.setIfInBounds_toArray, List.set_cons_zero, List.set_cons_succ]
                  refine det_call _ _ _ [.int .u32 (wi v0), .int .u64 22] (.int .u32 (wi (rotr v0 22))) (by rfl) rfl Tryd.call34 rfl (fun w hw => ror_ext v0 22 (by omega) w) ?_
                  simp only [Act.put, List.setIfInBounds_toArray, List.set_cons_zero, List.set_cons_succ]
                  refine det_xor _ _ _ _ _ _ _ (wi (((rotr v0 2) ^^^ (rotr v0 13)) ^^^ (rotr v0 22))) (by rfl) rfl rfl rfl (wi_xor _ _) ?_
                  simp only [Act.put, List.setIfInBounds_toArray, List.set_cons_zero, List.set_cons_succ]
                  refine det_move _ (.int .u32 (wi v0)) (by rfl) rfl rfl ?_
                  simp only [Act.put, List.setIfInBounds_toArray, List.set_cons_zero, List.set_cons_succ]
                  refine det_index _ _ _ _ E 8 1 (by rfl) rfl rfl rfl Tryd.underlying48 (by omega) (Tryd.sizeOf47) ?_
                  simp only [Act.put, List.setIfInBounds_toArray, List.set_cons_zero, List.set_cons_succ]
                  refine det_cell _ _ E 1 (.int .u32 (wi v1)) (by rfl) rfl rfl (fun w hw => HVC.out 1 (by omega) _ (ext_blk HVB.out hw) _ HVE1.out) (Tryd.isAgg47) ?_
                  simp only [Act.put, List.setIfInBounds_toArray, List.set_cons_zero, List.set_cons_succ]
                  refine det_and _ _ _ _ _ _ _ (wi (v0 &&& v1)) (by rfl) rfl rfl rfl (wi_and _ _) ?_
                  simp only [Act.put, List.setIfInBounds_toArray, List.set_cons_zero, List.set_cons_succ]
                  refine det_move _ (.int .u32 (wi v0)) (by rfl) rfl rfl ?_
                  simp only [Act.put, List.setIfInBounds_toArray, List.set_cons_zero, List.set_cons_succ]
                  refine det_index _ _ _ _ E 8 2 (by rfl) rfl rfl rfl Tryd.underlying48 (by omega) (Tryd.sizeOf47) ?_
                  simp only [Act.put, List.setIfInBounds_toArray, List.set_cons_zero, List.set_cons_succ]
                  refine det_cell _ _ E 2 (.int .u32 (wi v2)) (by rfl) rfl rfl (fun w hw => HVC.out 2 (by omega) _ (ext_blk HVB.out hw) _ HVE2.out) (Tryd.isAgg47) ?_
                  simp only [Act.put, List.setIfInBounds_toArray, List.set_cons_zero, List.set_cons_succ]
                  refine det_and _ _ _ _ _ _ _ (wi (v0 &&& v2)) (by rfl) rfl rfl rfl (wi_and _ _) ?_
                  simp only [Act.put, List.setIfInBounds_toArray, List.set_cons_zero, List.set_cons_succ]
                  refine det_xor _ _ _ _ _ _ _ (wi ((v0 &&& v1) ^^^ (v0 &&& v2))) (by rfl) rfl rfl rfl (wi_xor _ _) ?_
                  simp only [Act.put, List.setIfInBounds_toArray, List.set_cons_zero, List.set_cons_succ]
                  refine det_index _ _ _ _ E 8 1 (by rfl) rfl rfl rfl Tryd.underlying48 (by omega) (Tryd.sizeOf47) ?_
                  simp only [Act.put, List.setIfInBounds_toArray, List.set_cons_zero, List.set_cons_succ]
                  refine det_cell _ _ E 1 (.int .u32 (wi v1)) (by rfl) rfl rfl (fun w hw => HVC.out 1 (by omega) _ (ext_blk HVB.out hw) _ HVE1.out) (Tryd.isAgg47) ?_
                  simp only [Act.put, List.setIfInBounds_toArray, List.set_cons_zero, List.set_cons_succ]
                  refine det_index _ _ _ _ E 8 2 (by rfl) rfl rfl rfl Tryd.underlying48 (by omega) (Tryd.sizeOf47) ?_
                  simp only [Act.put, List.setIfInBounds_toArray, List.set_cons_zero, List.set_cons_succ]
                  refine det_cell _ _ E 2 (.int .u32 (wi v2)) (by rfl) rfl rfl (fun w hw => HVC.out 2 (by omega) _ (ext_blk HVB.out hw) _ HVE2.out) (Tryd.isAgg47) ?_
                  simp only [Act.put, List.setIfInBounds_toArray, List.set_cons_zero, List.set_cons_succ]
                  refine det_and _ _ _ _ _ _ _ (wi (v1 &&& v2)) (by rfl) rfl rfl rfl (wi_and _ _) ?_
                  simp only [Act.put, List.setIfInBounds_toArray, List.set_cons_zero, List.set_cons_succ]
                  refine det_xor _ _ _ _ _ _ _ (wi (((v0 &&& v1) ^^^ (v0 &&& v2)) ^^^ (v1 &&& v2))) (by rfl) rfl rfl rfl (wi_xor _ _) ?_
                  simp only [Act.put, List.setIfInBounds_toArray, List.set_cons_zero, List.set_cons_succ]
                  refine det_add _ _ _ _ _ _ _ (wi ((((rotr v0 2) ^^^ (rotr v0 13)) ^^^ (rotr v0 22)) + (((v0 &&& v1) ^^^ (v0 &&& v2)) ^^^ (v1 &&& v2)))) (by rfl) rfl rfl rfl (wi_add _ _) ?_
                  simp only [Act.put, List.setIfInBounds_toArray, List.set_cons_zero, List.set_cons_succ]
                  refine det_assign _ (.int .u32 (wi ((((rotr v0 2) ^^^ (rotr v0 13)) ^^^ (rotr v0 22)) + (((v0 &&& v1) ^^^ (v0 &&& v2)) ^^^ (v1 &&& v2))))) (by rfl) rfl rfl ?_
                  simp only [Act.put, List.setIfInBounds_toArray, List.set_cons_zero, List.set_cons_succ]
                  refine det_nil (fun wy hy => ?_)
                  have HVB := Lib.hid (ext_blk HVB.out hy)
                  have HWB := Lib.hid (ext_blk HWB.out hy)
                  have H1 := Lib.hid (ext_blk H1.out hy)
                  have H2 := Lib.hid (ext_blk H2.out hy)
                  have HE2 := Lib.hid (HE2.out.ext hy)
                  have HE := Lib.hid (HE.out.trans hy)
                  clear hy
                  generalize hu : (((rotr v0 2) ^^^ (rotr v0 13)) ^^^ (rotr v0 22)) + (((v0 &&& v1) ^^^ (v0 &&& v2)) ^^^ (v1 &&& v2)) = u at *
                  have HU := Lib.hid hu
                  clear hu
                  clear b0 b1 b2 b3 b4 b5 b6 b7
                  have b1 := HVC.out 1 (by omega) _ HVB.out _ HVE1.out
                  have b2 := HVC.out 2 (by omega) _ HVB.out _ HVE2.out
                  have b3 := HVC.out 3 (by omega) _ HVB.out _ HVE3.out
                  have b5 := HVC.out 5 (by omega) _ HVB.out _ HVE5.out
                  have b6 := HVC.out 6 (by omega) _ HVB.out _ HVE6.out
                  have q7 : (wi t + wi u) % 4294967296 = wi (t + u) := by rw [← wi_add, IntKind.wrap_u32]
                  have q8 : (wi v3 + wi t) % 4294967296 = wi (v3 + t) := by rw [← wi_add, IntKind.wrap_u32]
                  have HVN : Hid (vRun h W (k + 1) = [t + u, v0, v1, v2, v3 + t, v4, v5, v6]) := Lib.hid (by rw [HRN.out, ← HT.out, ← HU.out])
                  clear HRN
                  have HLn : Hid ((ints .u32 (ws [t + u, v0, v1, v2, v3 + t, v4, v5, v6])).length = (ints .u32 (ws vv)).length) := Lib.hid (by rw [ints_length, ws_length, ints_length, ws_length, HVL.out]; rfl)
                  have HIn : Hid ((Tryd.prog.info? 48).map (·.size) = some (ints .u32 (ws [t + u, v0, v1, v2, v3 + t, v4, v5, v6])).length) := Lib.hid Tryd.arr48
                  go_wp2_with (refine wpList_store_blk rfl _ _ _ rfl E (ints .u32 (ws [t + u, v0, v1, v2, v3 + t, v4, v5, v6])) rfl rfl _ _ HVB.out HLn.out HIn.out (ints_one _ _) ?_; intro wz hbz hgz)
                  go_roundw
                  case rel => exact ⟨k + 1, by omega, by go_num, by rw [HVN.out]; exact hbz, HWB.out.grown hgz (by have := HDE.out; simp; omega), H2.out.grown hgz (by have := HAE.out; simp; omega), H1.out.grown hgz (by have := HAE.out; simp; omega), HE2.out.grown hgz (by have := HBS.out; have := HS2.out; simp; omega), ext_grown HE.out hgz (by have := HAE.out; omega)⟩
                  case measure => simp [intOf]; omega
                · have hk64 : k = 64 := by omega
                  have hk65 : (k : Int) = 64 := by omega
                  rw [hk65]
                  clear hk65
                  subst hk64
                  generalize vRun h W 64 = vv at *
                  go_wp2_with fail
                  obtain ⟨wo2, rfl⟩ : ∃ wo : World, wo = wr := ⟨_, rfl⟩
                  go_loopw [18] (fun iv wr => ∃ (j : Nat), j ≤ 8 ∧ iv = .int .i64 (j : Int) ∧ Blk wr E (ints .u32 (ws vv)) 48 ∧ Blk wr (A + 1) (ints .u32 (ws (hAdd h vv j))) 48 ∧ Blk wr A (ints .u8 (List.replicate 32 0)) 26 ∧ MsgAt w2.heap.size b' off m wr ∧ Ext w wr) (fun iv _ => 8 - (intOf iv).toNat)
                  case atStart => exact ⟨0, by omega, rfl, HVB.out, H2.out, H1.out, HE2.out, HE.out⟩
                  case round =>
                    clear HVB H2 H1 HE2 HE
                    obtain ⟨j, hj, rfl, hbv, hb2, hb1, he2, hbel⟩ := hrel
                    have j0 : (0 : Int) ≤ (j : Int) := Int.natCast_nonneg _
                    by_cases hj8 : j < 8
                    · have j1 : (j : Int) < 8 := by omega
                      have e1 := blk_w hb2 (j := j) (by rw [hAdd_length, HH8.out]; exact hj8)
                      have e2 := blk_w hbv (j := j) (by rw [HVL.out]; exact hj8)
                      have f1 := hb2.free j
                      have HST : Hid (ws (hAdd h vv (j + 1)) = (ws (hAdd h vv j)).set j (wi ((hAdd h vv j).getD j 0#32 + vv.getD j 0#32))) := Lib.hid (by rw [ws_set, hAdd])
                      generalize (hAdd h vv j).getD j 0#32 = p1 at *
                      generalize vv.getD j 0#32 = p2 at *
                      have q1 : (wi p1 + wi p2) % 4294967296 = wi (p1 + p2) := by rw [← wi_add, IntKind.wrap_u32]
                      have HQ1 := Lib.hid q1
                      have HVB := Lib.hid hbv
                      have H1 := Lib.hid hb1
                      have H2 := Lib.hid hb2
                      have HE := Lib.hid hbel
                      have HE2 := Lib.hid he2
                      clear hbv hb1 hb2 hbel he2 q1
                      go_wp2_with fail
                      go_region
                      go_wp2_with fail
                      go_roundw
                      case rel =>
                        refine ⟨j + 1, by omega, by go_num, (HVB.out.far (by have := HAE.out; simp; omega) _).drewN 1, ?_, (H1.out.far (by simp <;> omega) _).drewN 1, (HE2.out.far (by have := HBA.out; simp; omega) _).drew, (Below.setCell HE.out (by simp <;> omega) _).drew⟩
                        rw [HST.out, ← HQ1.out]
                        exact (H2.out.seti j _).drewN 1
                      case measure => simp [intOf]; omega
                    · have hj9 : j = 8 := by omega
                      subst hj9
                      rw [← HHR.out] at hb2
                      have H1 := Lib.hid hb1
                      have H2 := Lib.hid hb2
                      have HE := Lib.hid hbel
                      have HE2 := Lib.hid he2
                      clear hbv hb1 hb2 hbel he2
                      go_wp2_with fail
                      go_roundw
                      case rel => exact ⟨n + 1, by omega, by rw [show 64 * (n : Int) + 64 = 64 * ((n + 1 : Nat) : Int) from by omega], H2.out, H1.out, HE2.out, HE.out⟩
                      case measure => simp [intOf]; omega
    · have hnN : n = N := by omega
      have hnN2 : (64 : Int) * (n : Int) = 64 * (N : Int) := by omega
      rw [hnN2]
      clear hnN2
      have HRR : Hid (outB (hRun m N) = sha256 b) := Lib.hid (by rw [HM.out, HN.out]; rfl)
      subst hnN
      have HR8 := Lib.hid (hRun_length m n)
      generalize hRun m n = R at *
      have HFZ := Lib.hid (Blk.made wr (ints .u8 (List.replicate 32 0)) 26)
      have H1L := Lib.hid hb1.lt
      have H2L := Lib.hid hb2.lt
      have K1 := Lib.hid (hb1.alloc (.cells (ints .u8 (List.replicate 32 0)).toArray 26))
      have K2 := Lib.hid (hb2.alloc (.cells (ints .u8 (List.replicate 32 0)).toArray 26))
      have HS := Lib.hid hbel.size
      have KE := Lib.hid (hbel.trans (Ext.alloc wr (.cells (ints .u8 (List.replicate 32 0)).toArray 26)))
      clear hb1 hb2 hbel he2
      go_upto_region 32 with (fail)
      change Code.wp _ _ _ _ (wr.alloc (.cells (ints .u8 (List.replicate 32 0)).toArray 26))
      generalize wr.alloc (.cells (ints .u8 (List.replicate 32 0)).toArray 26) = wf at *
      have HAF : Hid (A + 1 < wr.heap.size) := H2L
      generalize wr.heap.size = F at *
      obtain ⟨o, ho⟩ : ∃ o, o = outB R := ⟨_, rfl⟩
      have HOL : Hid (o.length = 32) := Lib.hid (by rw [ho, outB_length])
      have HOO := Lib.hid ho
      have HOS : Hid (o = sha256 b) := Lib.hid (by rw [ho]; exact HRR.out)
      clear ho HRR H1L H2L
      go_wp2_with fail
      go_loopw [20] (fun iv wr => ∃ (j : Nat), j ≤ 32 ∧ iv = .int .i64 (j : Int) ∧ Blk wr F ((fill 32 o j).map bval) 26 ∧ Blk wr (A + 1) (ints .u32 (ws R)) 48 ∧ Blk wr A (ints .u8 (List.replicate 32 0)) 26 ∧ Ext w wr) (fun iv _ => 32 - (intOf iv).toNat)
      case atStart => exact ⟨0, by omega, rfl, by rw [fill_start]; exact HFZ.out, K2.out, K1.out, KE.out⟩
      case round =>
        clear HFZ K2 K1 KE
        obtain ⟨j, hj, rfl, hbf, hb2, hb1, hbel⟩ := hrel
        have j0 : (0 : Int) ≤ (j : Int) := Int.natCast_nonneg _
        by_cases hj32 : j < 32
        · have j1 : (j : Int) < 32 := by omega
          obtain ⟨q, hq⟩ : ∃ q : Nat, q = j / 4 := ⟨_, rfl⟩
          obtain ⟨r, hr⟩ : ∃ r : Nat, r = j % 4 := ⟨_, rfl⟩
          obtain ⟨s, hs⟩ : ∃ s : Nat, s = 24 - 8 * r := ⟨_, rfl⟩
          have hq1 : (j : Int) / 4 = (q : Int) := by omega
          have hr1 : (j : Int) % 4 = (r : Int) := by omega
          have hs1 : 24 - 8 * (r : Int) = (s : Int) := by omega
          have hq8 : (q : Int) < 8 := by omega
          have q0 : (0 : Int) ≤ (q : Int) := Int.natCast_nonneg _
          have r0 : (0 : Int) ≤ (r : Int) := Int.natCast_nonneg _
          have r4 : (r : Int) < 4 := by omega
          have s0 : (0 : Int) ≤ (s : Int) := Int.natCast_nonneg _
          have s25 : (s : Int) ≤ 24 := by omega
          have e1 := blk_w hb2 (j := q) (by rw [HR8.out]; omega)
          have hof := outB_getD R j hj32
          rw [← hq, ← hr, ← hs, ← HOO.out] at hof
          generalize R.getD q 0#32 = x at *
          have hxr := wi_range x
          have e2 := hbf.cell j
          rw [bval_get (by rw [fill_length HOL.out (by omega)]; exact hj32)] at e2
          have f2 := hbf.free j
          have HFS : ∀ z : Int, z = ((o.getD j 0).toNat : Int) → _ := fun z hz => fill_set_val HOL.out hj32 hz
          have HFS := Lib.hid HFS
          have hza : bits .and .u32 (wi x / 2 ^ s) 255 % 256 = ((o.getD j 0).toNat : Int) := by
            rw [hof, UInt8.toNat_ofNat', wi_shr, sha_and_u32_255]
            rw [BitVec.toNat_ushiftRight, Nat.shiftRight_eq_div_pow]
            omega
          have HZA := Lib.hid hza
          have HF := Lib.hid hbf
          have H1 := Lib.hid hb1
          have H2 := Lib.hid hb2
          have HE := Lib.hid hbel
          clear hbf hb1 hb2 hbel hof hza hq hr hs
          generalize ((fill 32 o j).getD j 0) = z2 at *
          generalize wi x = zx at *
          go_wp2_with fail
          go_roundw
          case rel =>
            refine ⟨j + 1, by omega, by go_num, ?_, H2.out.far (by have := HAF.out; simp; omega) _, H1.out.far (by have := HAF.out; simp; omega) _, Below.setCell HE.out (by have := HAF.out; simp; omega) _⟩
            rw [← HFS.out _ HZA.out]
            exact HF.out.set j _
          case measure => simp [intOf]; omega
        · have hj9 : j = 32 := by omega
          subst hj9
          rw [fill_full HOL.out] at hbf
          have H1 := Lib.hid hb1
          have HF := Lib.hid hbf
          have HE := Lib.hid hbel
          clear hbf hb1 hb2 hbel
          have HIo : Hid ((Tryd.prog.info? 26).map (·.size) = some (o.map bval).length) := Lib.hid (num_size HOL.out)
          have HLo : Hid ((o.map bval).length = (ints .u8 (List.replicate 32 0)).length) := Lib.hid (by rw [List.length_map, HOL.out, ints_length, List.length_replicate])
          go_wp2_with (first | (refine wpList_load_blk rfl _ _ rfl F rfl _ _ _ _ HF.out Tryd.underlying26 HIo.out ?_) | (refine wpList_store_blk rfl _ _ _ rfl A (o.map bval) rfl rfl _ _ H1.out HLo.out HIo.out (bval_one _) ?_; intro w7 hb7 hg7))
          refine bodyPost_ret (result_blk rfl _ A _ _ _ _ rfl hb7 Tryd.underlying26 HIo.out) rfl ?_
          exact ⟨by rw [HOS.out], ext_grown HE.out hg7 (by omega)⟩
end Go.Proofs.YtcadfccijeodbaaDoor

/- The listed variables of chapter 5's laws read as they are listed. Each theorem names its own conditions. -/
namespace Go.Proofs.YtcadfccijeodbaaDoor
open Go.RowKit
set_option linter.unusedVariables false

theorem gK256 : Tryd.prog.globalNamed "portcullis/portcullisref1.k256" = some 0 := by kernel_rfl
theorem tK256 : (Tryd.prog.globals[0]?).map (·.type) = some 62 := by kernel_rfl
theorem dK256 : (Rows.laid_portcullis_portcullisref1_k256 : DataW Unit) = .agg ((ws K256).map fun z => .lit (.int .u32 z)) := by kernel_rfl
theorem globK_of {W : World} {L : List (String × DataW Unit)} (hp : (L.all fun x => x.2.handleName?.isNone) = true) (h : laidMetH Tryd.prog L W) (hm : ("portcullis/portcullisref1.k256", Rows.laid_portcullis_portcullisref1_k256) ∈ L) : GlobK W :=
  range_of_laid hp h hm dK256 gK256 tK256 Tryd.underlying62 Tryd.underlying47 (by kernel_rfl) (by rw [ws_length]; rfl)

end Go.Proofs.YtcadfccijeodbaaDoor

/- The parameters of a call, five and more. Nothing here speaks of a program. Each theorem names its own conditions. -/
namespace Go.Proofs.YtcadfccijeodbaaDoor
open Go.ChangeShapes Go.WideShapes Go.ChangeAt Go.RowKit
set_option linter.unusedVariables false
set_option linter.unusedSimpArgs false

section
variable {H : Type} {enc : TypeId × Value → H} {P : Program} {w : World} {base : Nat} {spare : Nat → Bool} {held : Bool}
theorem trodAll_five {t0 t1 t2 t3 t4 : TypeId} {args : Array Value} {ds : List (DataW H)} {ps : List MemPlace} (h : DataW.TrodAll enc P w base spare held [t0, t1, t2, t3, t4] args.toList ds ps) :
    ∃ v0 v1 v2 v3 v4 d0 d1 d2 d3 d4 p0 p1 p2 p3 p4, args = #[v0, v1, v2, v3, v4] ∧ ds = [d0, d1, d2, d3, d4] ∧ ps = p0 ++ p1 ++ p2 ++ p3 ++ p4 ∧ DataW.Trod enc P w base spare held t0 v0 d0 p0 ∧ DataW.Trod enc P w base spare held t1 v1 d1 p1 ∧ DataW.Trod enc P w base spare held t2 v2 d2 p2 ∧ DataW.Trod enc P w base spare held t3 v3 d3 p3 ∧ DataW.Trod enc P w base spare held t4 v4 d4 p4 := by
  obtain ⟨v0, vs0, d0, ds0, p0, q0, hargs, rfl, rfl, h0, r0⟩ := trodAll_cons h
  obtain ⟨v1, vs1, d1, ds1, p1, q1, rfl, rfl, rfl, h1, r1⟩ := trodAll_cons r0
  obtain ⟨v2, vs2, d2, ds2, p2, q2, rfl, rfl, rfl, h2, r2⟩ := trodAll_cons r1
  obtain ⟨v3, vs3, d3, ds3, p3, q3, rfl, rfl, rfl, h3, r3⟩ := trodAll_cons r2
  obtain ⟨v4, vs4, d4, ds4, p4, q4, rfl, rfl, rfl, h4, r4⟩ := trodAll_cons r3
  obtain ⟨rfl, rfl, rfl⟩ := trodAll_nil r4
  exact ⟨v0, v1, v2, v3, v4, d0, d1, d2, d3, d4, p0, p1, p2, p3, p4, by cases args; simp_all, rfl, by simp, h0, h1, h2, h3, h4⟩
theorem trodAll_six {t0 t1 t2 t3 t4 t5 : TypeId} {args : Array Value} {ds : List (DataW H)} {ps : List MemPlace} (h : DataW.TrodAll enc P w base spare held [t0, t1, t2, t3, t4, t5] args.toList ds ps) :
    ∃ v0 v1 v2 v3 v4 v5 d0 d1 d2 d3 d4 d5 p0 p1 p2 p3 p4 p5, args = #[v0, v1, v2, v3, v4, v5] ∧ ds = [d0, d1, d2, d3, d4, d5] ∧ ps = p0 ++ p1 ++ p2 ++ p3 ++ p4 ++ p5 ∧ DataW.Trod enc P w base spare held t0 v0 d0 p0 ∧ DataW.Trod enc P w base spare held t1 v1 d1 p1 ∧ DataW.Trod enc P w base spare held t2 v2 d2 p2 ∧ DataW.Trod enc P w base spare held t3 v3 d3 p3 ∧ DataW.Trod enc P w base spare held t4 v4 d4 p4 ∧ DataW.Trod enc P w base spare held t5 v5 d5 p5 := by
  obtain ⟨v0, vs0, d0, ds0, p0, q0, hargs, rfl, rfl, h0, r0⟩ := trodAll_cons h
  obtain ⟨v1, vs1, d1, ds1, p1, q1, rfl, rfl, rfl, h1, r1⟩ := trodAll_cons r0
  obtain ⟨v2, vs2, d2, ds2, p2, q2, rfl, rfl, rfl, h2, r2⟩ := trodAll_cons r1
  obtain ⟨v3, vs3, d3, ds3, p3, q3, rfl, rfl, rfl, h3, r3⟩ := trodAll_cons r2
  obtain ⟨v4, vs4, d4, ds4, p4, q4, rfl, rfl, rfl, h4, r4⟩ := trodAll_cons r3
  obtain ⟨v5, vs5, d5, ds5, p5, q5, rfl, rfl, rfl, h5, r5⟩ := trodAll_cons r4
  obtain ⟨rfl, rfl, rfl⟩ := trodAll_nil r5
  exact ⟨v0, v1, v2, v3, v4, v5, d0, d1, d2, d3, d4, d5, p0, p1, p2, p3, p4, p5, by cases args; simp_all, rfl, by simp, h0, h1, h2, h3, h4, h5⟩
theorem trodAll_seven {t0 t1 t2 t3 t4 t5 t6 : TypeId} {args : Array Value} {ds : List (DataW H)} {ps : List MemPlace} (h : DataW.TrodAll enc P w base spare held [t0, t1, t2, t3, t4, t5, t6] args.toList ds ps) :
    ∃ v0 v1 v2 v3 v4 v5 v6 d0 d1 d2 d3 d4 d5 d6 p0 p1 p2 p3 p4 p5 p6, args = #[v0, v1, v2, v3, v4, v5, v6] ∧ ds = [d0, d1, d2, d3, d4, d5, d6] ∧ ps = p0 ++ p1 ++ p2 ++ p3 ++ p4 ++ p5 ++ p6 ∧ DataW.Trod enc P w base spare held t0 v0 d0 p0 ∧ DataW.Trod enc P w base spare held t1 v1 d1 p1 ∧ DataW.Trod enc P w base spare held t2 v2 d2 p2 ∧ DataW.Trod enc P w base spare held t3 v3 d3 p3 ∧ DataW.Trod enc P w base spare held t4 v4 d4 p4 ∧ DataW.Trod enc P w base spare held t5 v5 d5 p5 ∧ DataW.Trod enc P w base spare held t6 v6 d6 p6 := by
  obtain ⟨v0, vs0, d0, ds0, p0, q0, hargs, rfl, rfl, h0, r0⟩ := trodAll_cons h
  obtain ⟨v1, vs1, d1, ds1, p1, q1, rfl, rfl, rfl, h1, r1⟩ := trodAll_cons r0
  obtain ⟨v2, vs2, d2, ds2, p2, q2, rfl, rfl, rfl, h2, r2⟩ := trodAll_cons r1
  obtain ⟨v3, vs3, d3, ds3, p3, q3, rfl, rfl, rfl, h3, r3⟩ := trodAll_cons r2
  obtain ⟨v4, vs4, d4, ds4, p4, q4, rfl, rfl, rfl, h4, r4⟩ := trodAll_cons r3
  obtain ⟨v5, vs5, d5, ds5, p5, q5, rfl, rfl, rfl, h5, r5⟩ := trodAll_cons r4
  obtain ⟨v6, vs6, d6, ds6, p6, q6, rfl, rfl, rfl, h6, r6⟩ := trodAll_cons r5
  obtain ⟨rfl, rfl, rfl⟩ := trodAll_nil r6
  exact ⟨v0, v1, v2, v3, v4, v5, v6, d0, d1, d2, d3, d4, d5, d6, p0, p1, p2, p3, p4, p5, p6, by cases args; simp_all, rfl, by simp, h0, h1, h2, h3, h4, h5, h6⟩
theorem trodAll_eight {t0 t1 t2 t3 t4 t5 t6 t7 : TypeId} {args : Array Value} {ds : List (DataW H)} {ps : List MemPlace} (h : DataW.TrodAll enc P w base spare held [t0, t1, t2, t3, t4, t5, t6, t7] args.toList ds ps) :
    ∃ v0 v1 v2 v3 v4 v5 v6 v7 d0 d1 d2 d3 d4 d5 d6 d7 p0 p1 p2 p3 p4 p5 p6 p7, args = #[v0, v1, v2, v3, v4, v5, v6, v7] ∧ ds = [d0, d1, d2, d3, d4, d5, d6, d7] ∧ ps = p0 ++ p1 ++ p2 ++ p3 ++ p4 ++ p5 ++ p6 ++ p7 ∧ DataW.Trod enc P w base spare held t0 v0 d0 p0 ∧ DataW.Trod enc P w base spare held t1 v1 d1 p1 ∧ DataW.Trod enc P w base spare held t2 v2 d2 p2 ∧ DataW.Trod enc P w base spare held t3 v3 d3 p3 ∧ DataW.Trod enc P w base spare held t4 v4 d4 p4 ∧ DataW.Trod enc P w base spare held t5 v5 d5 p5 ∧ DataW.Trod enc P w base spare held t6 v6 d6 p6 ∧ DataW.Trod enc P w base spare held t7 v7 d7 p7 := by
  obtain ⟨v0, vs0, d0, ds0, p0, q0, hargs, rfl, rfl, h0, r0⟩ := trodAll_cons h
  obtain ⟨v1, vs1, d1, ds1, p1, q1, rfl, rfl, rfl, h1, r1⟩ := trodAll_cons r0
  obtain ⟨v2, vs2, d2, ds2, p2, q2, rfl, rfl, rfl, h2, r2⟩ := trodAll_cons r1
  obtain ⟨v3, vs3, d3, ds3, p3, q3, rfl, rfl, rfl, h3, r3⟩ := trodAll_cons r2
  obtain ⟨v4, vs4, d4, ds4, p4, q4, rfl, rfl, rfl, h4, r4⟩ := trodAll_cons r3
  obtain ⟨v5, vs5, d5, ds5, p5, q5, rfl, rfl, rfl, h5, r5⟩ := trodAll_cons r4
  obtain ⟨v6, vs6, d6, ds6, p6, q6, rfl, rfl, rfl, h6, r6⟩ := trodAll_cons r5
  obtain ⟨v7, vs7, d7, ds7, p7, q7, rfl, rfl, rfl, h7, r7⟩ := trodAll_cons r6
  obtain ⟨rfl, rfl, rfl⟩ := trodAll_nil r7
  exact ⟨v0, v1, v2, v3, v4, v5, v6, v7, d0, d1, d2, d3, d4, d5, d6, d7, p0, p1, p2, p3, p4, p5, p6, p7, by cases args; simp_all, rfl, by simp, h0, h1, h2, h3, h4, h5, h6, h7⟩
theorem trodAll_nine {t0 t1 t2 t3 t4 t5 t6 t7 t8 : TypeId} {args : Array Value} {ds : List (DataW H)} {ps : List MemPlace} (h : DataW.TrodAll enc P w base spare held [t0, t1, t2, t3, t4, t5, t6, t7, t8] args.toList ds ps) :
    ∃ v0 v1 v2 v3 v4 v5 v6 v7 v8 d0 d1 d2 d3 d4 d5 d6 d7 d8 p0 p1 p2 p3 p4 p5 p6 p7 p8, args = #[v0, v1, v2, v3, v4, v5, v6, v7, v8] ∧ ds = [d0, d1, d2, d3, d4, d5, d6, d7, d8] ∧ ps = p0 ++ p1 ++ p2 ++ p3 ++ p4 ++ p5 ++ p6 ++ p7 ++ p8 ∧ DataW.Trod enc P w base spare held t0 v0 d0 p0 ∧ DataW.Trod enc P w base spare held t1 v1 d1 p1 ∧ DataW.Trod enc P w base spare held t2 v2 d2 p2 ∧ DataW.Trod enc P w base spare held t3 v3 d3 p3 ∧ DataW.Trod enc P w base spare held t4 v4 d4 p4 ∧ DataW.Trod enc P w base spare held t5 v5 d5 p5 ∧ DataW.Trod enc P w base spare held t6 v6 d6 p6 ∧ DataW.Trod enc P w base spare held t7 v7 d7 p7 ∧ DataW.Trod enc P w base spare held t8 v8 d8 p8 := by
  obtain ⟨v0, vs0, d0, ds0, p0, q0, hargs, rfl, rfl, h0, r0⟩ := trodAll_cons h
  obtain ⟨v1, vs1, d1, ds1, p1, q1, rfl, rfl, rfl, h1, r1⟩ := trodAll_cons r0
  obtain ⟨v2, vs2, d2, ds2, p2, q2, rfl, rfl, rfl, h2, r2⟩ := trodAll_cons r1
  obtain ⟨v3, vs3, d3, ds3, p3, q3, rfl, rfl, rfl, h3, r3⟩ := trodAll_cons r2
  obtain ⟨v4, vs4, d4, ds4, p4, q4, rfl, rfl, rfl, h4, r4⟩ := trodAll_cons r3
  obtain ⟨v5, vs5, d5, ds5, p5, q5, rfl, rfl, rfl, h5, r5⟩ := trodAll_cons r4
  obtain ⟨v6, vs6, d6, ds6, p6, q6, rfl, rfl, rfl, h6, r6⟩ := trodAll_cons r5
  obtain ⟨v7, vs7, d7, ds7, p7, q7, rfl, rfl, rfl, h7, r7⟩ := trodAll_cons r6
  obtain ⟨v8, vs8, d8, ds8, p8, q8, rfl, rfl, rfl, h8, r8⟩ := trodAll_cons r7
  obtain ⟨rfl, rfl, rfl⟩ := trodAll_nil r8
  exact ⟨v0, v1, v2, v3, v4, v5, v6, v7, v8, d0, d1, d2, d3, d4, d5, d6, d7, d8, p0, p1, p2, p3, p4, p5, p6, p7, p8, by cases args; simp_all, rfl, by simp, h0, h1, h2, h3, h4, h5, h6, h7, h8⟩
end

end Go.Proofs.YtcadfccijeodbaaDoor

/- Hash trees over lists of lists of bytes: the root, the path of a place, what a path leads to. No program. Each theorem names its own conditions. -/
namespace Go.Proofs.YtcadfccijeodbaaDoor
open Go.RowKit
set_option linter.unusedVariables false

/-- The greatest power of 2 below n (from 2 on). -/
def merK (n : Nat) : Nat := 2 ^ Nat.log2 (n - 1)
theorem merK_pos (n : Nat) : 0 < merK n := Nat.pow_pos (by omega)
theorem merK_lt {n : Nat} (h : 2 ≤ n) : merK n < n := by
  have := Nat.log2_self_le (n := n - 1) (by omega)
  unfold merK
  omega
theorem merK_le {n : Nat} (h : 2 ≤ n) : n ≤ 2 * merK n := by
  have := Nat.lt_log2_self (n := n - 1)
  unfold merK
  rw [Nat.pow_succ] at this
  omega
theorem pow_gap {a b : Nat} (h1 : 2 ^ a < 2 * 2 ^ b) (h2 : 2 ^ b < 2 * 2 ^ a) : a = b := by
  rw [Nat.mul_comm, ← Nat.pow_succ] at h1 h2
  have := (Nat.pow_lt_pow_iff_right (by decide : 1 < 2)).1 h1
  have := (Nat.pow_lt_pow_iff_right (by decide : 1 < 2)).1 h2
  omega
/-- It is the only one. -/
theorem merK_of {n j : Nat} (h : 2 ≤ n) (h1 : 2 ^ j < n) (h2 : n ≤ 2 * 2 ^ j) : merK n = 2 ^ j := by
  have h3 := merK_lt h
  have h4 := merK_le h
  unfold merK at h3 h4 ⊢
  rw [pow_gap (a := Nat.log2 (n - 1)) (b := j) (by omega) (by omega)]

def merRF : Nat → List (List UInt8) → List UInt8
  | 0, _ => sha256 []
  | f + 1, l => if l.length = 0 then sha256 [] else if l.length = 1 then sha256 (0 :: l.headD [])
    else sha256 (1 :: (merRF f (l.take (merK l.length)) ++ merRF f (l.drop (merK l.length))))
theorem merRF_more : ∀ (f g : Nat) (l : List (List UInt8)), l.length ≤ f → l.length ≤ g → merRF f l = merRF g l
  | 0, 0, l, _, _ => rfl
  | 0, g + 1, l, h, _ => by
    rw [merRF, merRF, if_pos (by omega)]
  | f + 1, 0, l, _, h => by
    rw [merRF, merRF, if_pos (by omega)]
  | f + 1, g + 1, l, h1, h2 => by
    rw [merRF, merRF]
    by_cases e0 : l.length = 0
    · rw [if_pos e0, if_pos e0]
    · rw [if_neg e0, if_neg e0]
      by_cases e1 : l.length = 1
      · rw [if_pos e1, if_pos e1]
      · have hk := merK_lt (n := l.length) (by omega)
        have hp := merK_pos l.length
        rw [if_neg e1, if_neg e1, merRF_more f g (l.take (merK l.length)) (by rw [List.length_take]; omega) (by rw [List.length_take]; omega),
          merRF_more f g (l.drop (merK l.length)) (by rw [List.length_drop]; omega) (by rw [List.length_drop]; omega)]
/-- The root. -/
def merR (l : List (List UInt8)) : List UInt8 := merRF l.length l
theorem merR_nil {l : List (List UInt8)} (h : l.length = 0) : merR l = sha256 [] := by
  unfold merR
  rw [h]
  rfl
theorem merR_one (b : List UInt8) : merR [b] = sha256 (0 :: b) := rfl
theorem merR_one' {l : List (List UInt8)} (h : l.length = 1) : merR l = sha256 (0 :: l.headD []) := by
  unfold merR
  rw [h, merRF, if_neg (by omega), if_pos h]
theorem merR_two {l : List (List UInt8)} (h : 2 ≤ l.length) : merR l = sha256 (1 :: (merR (l.take (merK l.length)) ++ merR (l.drop (merK l.length)))) := by
  have hk := merK_lt h
  have hp := merK_pos l.length
  obtain ⟨f, hf⟩ : ∃ f, l.length = f + 1 := ⟨l.length - 1, by omega⟩
  have e : merR l = merRF (f + 1) l := by unfold merR; rw [hf]
  rw [e, merRF, if_neg (by omega), if_neg (by omega)]
  unfold merR
  rw [merRF_more f (l.take (merK l.length)).length (l.take (merK l.length)) (by rw [List.length_take]; omega) (Nat.le_refl _),
    merRF_more f (l.drop (merK l.length)).length (l.drop (merK l.length)) (by rw [List.length_drop]; omega) (Nat.le_refl _)]
theorem merRF_length : ∀ (f : Nat) (l : List (List UInt8)), (merRF f l).length = 32
  | 0, l => sha256_length _
  | f + 1, l => by
    rw [merRF]
    split
    · exact sha256_length _
    · split <;> exact sha256_length _
theorem merR_length (l : List (List UInt8)) : (merR l).length = 32 := merRF_length _ _

def merPF : Nat → List (List UInt8) → Nat → List (List UInt8)
  | 0, _, _ => []
  | f + 1, l, i => if l.length < 2 then [] else if i < merK l.length then merPF f (l.take (merK l.length)) i ++ [merR (l.drop (merK l.length))]
    else merPF f (l.drop (merK l.length)) (i - merK l.length) ++ [merR (l.take (merK l.length))]
theorem merPF_more : ∀ (f g : Nat) (l : List (List UInt8)) (i : Nat), l.length ≤ f → l.length ≤ g → merPF f l i = merPF g l i
  | 0, 0, l, i, _, _ => rfl
  | 0, g + 1, l, i, h, _ => by
    rw [merPF, merPF, if_pos (by omega)]
  | f + 1, 0, l, i, _, h => by
    rw [merPF, merPF, if_pos (by omega)]
  | f + 1, g + 1, l, i, h1, h2 => by
    rw [merPF, merPF]
    by_cases e0 : l.length < 2
    · rw [if_pos e0, if_pos e0]
    · have hk := merK_lt (n := l.length) (by omega)
      have hp := merK_pos l.length
      rw [if_neg e0, if_neg e0, merPF_more f g (l.take (merK l.length)) i (by rw [List.length_take]; omega) (by rw [List.length_take]; omega),
        merPF_more f g (l.drop (merK l.length)) (i - merK l.length) (by rw [List.length_drop]; omega) (by rw [List.length_drop]; omega)]
/-- The path of the place i, from the element to the root. -/
def merP (l : List (List UInt8)) (i : Nat) : List (List UInt8) := merPF l.length l i
theorem merP_few {l : List (List UInt8)} (i : Nat) (h : l.length < 2) : merP l i = [] := by
  unfold merP
  obtain e | e : l.length = 0 ∨ l.length = 1 := by omega
  · rw [e]; rfl
  · rw [e, merPF, if_pos h]
theorem merP_low {l : List (List UInt8)} {i : Nat} (h : 2 ≤ l.length) (hi : i < merK l.length) : merP l i = merP (l.take (merK l.length)) i ++ [merR (l.drop (merK l.length))] := by
  have hk := merK_lt h
  have hp := merK_pos l.length
  obtain ⟨f, hf⟩ : ∃ f, l.length = f + 1 := ⟨l.length - 1, by omega⟩
  have e : merP l i = merPF (f + 1) l i := by unfold merP; rw [hf]
  rw [e, merPF, if_neg (by omega), if_pos hi]
  unfold merP
  rw [merPF_more f (l.take (merK l.length)).length (l.take (merK l.length)) i (by rw [List.length_take]; omega) (Nat.le_refl _)]
theorem merP_high {l : List (List UInt8)} {i : Nat} (h : 2 ≤ l.length) (hi : ¬ i < merK l.length) : merP l i = merP (l.drop (merK l.length)) (i - merK l.length) ++ [merR (l.take (merK l.length))] := by
  have hk := merK_lt h
  have hp := merK_pos l.length
  obtain ⟨f, hf⟩ : ∃ f, l.length = f + 1 := ⟨l.length - 1, by omega⟩
  have e : merP l i = merPF (f + 1) l i := by unfold merP; rw [hf]
  rw [e, merPF, if_neg (by omega), if_neg hi]
  unfold merP
  rw [merPF_more f (l.drop (merK l.length)).length (l.drop (merK l.length)) (i - merK l.length) (by rw [List.length_drop]; omega) (Nat.le_refl _)]
theorem merPF_nums : ∀ (f : Nat) (l : List (List UInt8)) (i : Nat), ∀ x ∈ merPF f l i, x.length = 32
  | 0, l, i, x, hx => by rw [merPF] at hx; cases hx
  | f + 1, l, i, x, hx => by
    rw [merPF] at hx
    split at hx
    · cases hx
    · split at hx
      · rcases List.mem_append.1 hx with h | h
        · exact merPF_nums f _ _ x h
        · rw [List.mem_singleton.1 h]; exact merR_length _
      · rcases List.mem_append.1 hx with h | h
        · exact merPF_nums f _ _ x h
        · rw [List.mem_singleton.1 h]; exact merR_length _
theorem merP_nums (l : List (List UInt8)) (i : Nat) : ∀ x ∈ merP l i, x.length = 32 := merPF_nums _ _ _

def merUF : Nat → Nat → Nat → List UInt8 → List (List UInt8) → Option (List UInt8)
  | 0, _, _, _, _ => none
  | f + 1, n, i, b, p => if n = 1 then (if p.length = 0 then some (sha256 (0 :: b)) else none) else if p.length = 0 then none
    else if i < merK n then (merUF f (merK n) i b p.dropLast).map fun h => sha256 (1 :: (h ++ p.getLastD []))
    else (merUF f (n - merK n) (i - merK n) b p.dropLast).map fun h => sha256 (1 :: (p.getLastD [] ++ h))
theorem merUF_more : ∀ (f g n i : Nat) (b : List UInt8) (p : List (List UInt8)), 0 < n → n ≤ f → n ≤ g → merUF f n i b p = merUF g n i b p
  | 0, _, n, _, _, _, h, h1, _ => by omega
  | _ + 1, 0, n, _, _, _, h, _, h2 => by omega
  | f + 1, g + 1, n, i, b, p, h, h1, h2 => by
    rw [merUF, merUF]
    by_cases e : n = 1
    · rw [if_pos e, if_pos e]
    · have hk := merK_lt (n := n) (by omega)
      have hp := merK_pos n
      rw [if_neg e, if_neg e, merUF_more f g (merK n) i b _ hp (by omega) (by omega), merUF_more f g (n - merK n) (i - merK n) b _ (by omega) (by omega) (by omega)]
/-- What a path of the place i among n leads to; nothing, if it is of another length. -/
def merU (n i : Nat) (b : List UInt8) (p : List (List UInt8)) : Option (List UInt8) := merUF n n i b p
theorem merU_one (i : Nat) (b : List UInt8) (p : List (List UInt8)) : merU 1 i b p = if p.length = 0 then some (sha256 (0 :: b)) else none := rfl
theorem merU_none {n : Nat} (i : Nat) (b : List UInt8) {p : List (List UInt8)} (h : 2 ≤ n) (hp : p.length = 0) : merU n i b p = none := by
  obtain ⟨f, rfl⟩ : ∃ f, n = f + 1 := ⟨n - 1, by omega⟩
  unfold merU
  rw [merUF, if_neg (by omega), if_pos hp]
theorem merU_low {n i : Nat} (b : List UInt8) {p : List (List UInt8)} (h : 2 ≤ n) (hp : p.length ≠ 0) (hi : i < merK n) : merU n i b p = (merU (merK n) i b p.dropLast).map fun h => sha256 (1 :: (h ++ p.getLastD [])) := by
  have hk := merK_lt h
  have hq := merK_pos n
  obtain ⟨f, hf⟩ : ∃ f, n = f + 1 := ⟨n - 1, by omega⟩
  have e : merU n i b p = merUF (f + 1) n i b p := by unfold merU; rw [← hf]
  rw [e, merUF, if_neg (by omega), if_neg hp, if_pos hi]
  unfold merU
  rw [merUF_more f (merK n) (merK n) i b _ hq (by omega) (Nat.le_refl _)]
theorem merU_high {n i : Nat} (b : List UInt8) {p : List (List UInt8)} (h : 2 ≤ n) (hp : p.length ≠ 0) (hi : ¬ i < merK n) : merU n i b p = (merU (n - merK n) (i - merK n) b p.dropLast).map fun h => sha256 (1 :: (p.getLastD [] ++ h)) := by
  have hk := merK_lt h
  have hq := merK_pos n
  obtain ⟨f, hf⟩ : ∃ f, n = f + 1 := ⟨n - 1, by omega⟩
  have e : merU n i b p = merUF (f + 1) n i b p := by unfold merU; rw [← hf]
  rw [e, merUF, if_neg (by omega), if_neg hp, if_neg hi]
  unfold merU
  rw [merUF_more f (n - merK n) (n - merK n) (i - merK n) b _ (by omega) (by omega) (Nat.le_refl _)]

/-- Each element's path leads to the root. -/
theorem merU_path : ∀ (m : Nat) (l : List (List UInt8)) (i : Nat), l.length ≤ m → i < l.length → merU l.length i (l.getD i []) (merP l i) = some (merR l)
  | 0, l, i, h, hi => by omega
  | m + 1, l, i, h, hi => by
    by_cases h1 : l.length = 1
    · have h0 : i = 0 := by omega
      subst h0
      rw [h1, merU_one, merP_few 0 (by omega), if_pos (by rfl : ([] : List (List UInt8)).length = 0), merR_one' h1]
      cases l with
      | nil => simp at h1
      | cons a t => rfl
    · have h2 : 2 ≤ l.length := by omega
      have hk := merK_lt h2
      have hq := merK_pos l.length
      by_cases hi2 : i < merK l.length
      · rw [merP_low h2 hi2, merU_low _ h2 (by simp) hi2, List.dropLast_concat, List.getLastD_concat]
        have e := merU_path m (l.take (merK l.length)) i (by rw [List.length_take]; omega) (by rw [List.length_take]; omega)
        rw [List.length_take, Nat.min_eq_left (by omega)] at e
        have eg : (l.take (merK l.length)).getD i [] = l.getD i [] := by
          rw [List.getD_eq_getElem?_getD, List.getElem?_take, if_pos hi2, ← List.getD_eq_getElem?_getD]
        rw [eg] at e
        rw [e, merR_two h2]
        rfl
      · rw [merP_high h2 hi2, merU_high _ h2 (by simp) hi2, List.dropLast_concat, List.getLastD_concat]
        have e := merU_path m (l.drop (merK l.length)) (i - merK l.length) (by rw [List.length_drop]; omega) (by rw [List.length_drop]; omega)
        rw [List.length_drop] at e
        have eg : (l.drop (merK l.length)).getD (i - merK l.length) [] = l.getD i [] := by
          rw [List.getD_eq_getElem?_getD, List.getElem?_drop, show merK l.length + (i - merK l.length) = i by omega, ← List.getD_eq_getElem?_getD]
        rw [eg] at e
        rw [e, merR_two h2]
        rfl
theorem merU_root {l : List (List UInt8)} {i : Nat} (hi : i < l.length) : merU l.length i (l.getD i []) (merP l i) = some (merR l) := merU_path l.length l i (Nat.le_refl _) hi

/-- A path is no longer than the height. -/
theorem merP_most : ∀ (m : Nat) (l : List (List UInt8)) (i : Nat), l.length ≤ 2 ^ m → (merP l i).length ≤ m
  | 0, l, i, h => by rw [merP_few i (by simp at h; omega)]; simp
  | m + 1, l, i, h => by
    by_cases h2 : l.length < 2
    · rw [merP_few i h2]; simp
    · have h2 : 2 ≤ l.length := by omega
      have hk := merK_lt h2
      have hl := merK_le h2
      have hm : merK l.length ≤ 2 ^ m := by
        unfold merK at hk ⊢
        have : 2 ^ Nat.log2 (l.length - 1) < 2 ^ (m + 1) := by omega
        have := (Nat.pow_lt_pow_iff_right (by decide : 1 < 2)).1 this
        exact Nat.pow_le_pow_right (by decide) (by omega)
      by_cases hi : i < merK l.length
      · rw [merP_low h2 hi, List.length_append, List.length_singleton]
        have := merP_most m (l.take (merK l.length)) i (by rw [List.length_take]; omega)
        omega
      · rw [merP_high h2 hi, List.length_append, List.length_singleton]
        have := merP_most m (l.drop (merK l.length)) (i - merK l.length) (by rw [List.length_drop]; omega)
        omega
theorem merP_full : ∀ (m : Nat) (l : List (List UInt8)) (i : Nat), l.length = 2 ^ m → (merP l i).length = m
  | 0, l, i, h => by rw [merP_few i (by simp at h; omega)]; rfl
  | m + 1, l, i, h => by
    have hp : 0 < 2 ^ m := Nat.pow_pos (by decide)
    rw [Nat.pow_succ] at h
    have h2 : 2 ≤ l.length := by omega
    have hk : merK l.length = 2 ^ m := merK_of h2 (by omega) (by omega)
    by_cases hi : i < merK l.length
    · rw [merP_low h2 hi, List.length_append, List.length_singleton, merP_full m (l.take (merK l.length)) i (by rw [List.length_take]; omega)]
    · rw [merP_high h2 hi, List.length_append, List.length_singleton, merP_full m (l.drop (merK l.length)) (i - merK l.length) (by rw [List.length_drop]; omega)]

end Go.Proofs.YtcadfccijeodbaaDoor

/- The loops of a hash tree's path, and of its check, as functions on lists, and that they are the path and what it leads to. No program. Each theorem names its own conditions. -/
namespace Go.Proofs.YtcadfccijeodbaaDoor
open Go.RowKit
set_option linter.unusedVariables false

/-- The tree beside the a-th one of a row of trees. -/
def sib (a : Nat) : Nat := if a % 2 = 0 then a + 1 else a - 1
theorem xor_one (a : Nat) : a ^^^ 1 = sib a := by
  have h1 : (a ^^^ 1) / 2 = a / 2 ^^^ 1 / 2 := Nat.xor_div_two
  have h2 : (a ^^^ 1) % 2 = (a + 1) % 2 := by
    have h := Nat.xor_mod_two_pow (a := a) (b := 1) (n := 1)
    rw [Nat.pow_one] at h
    rw [h]
    obtain e | e : a % 2 = 0 ∨ a % 2 = 1 := by omega
    · rw [e, Nat.add_mod, e]
      rfl
    · rw [e, Nat.add_mod, e]
      rfl
  rw [show 1 / 2 = 0 from rfl, Nat.xor_zero] at h1
  unfold sib
  split <;> omega
theorem sib_xor (a j : Nat) : (a * 2 ^ j) ^^^ (2 ^ j) = sib a * 2 ^ j := by
  have h := Nat.shiftLeft_xor_distrib (a := a) (b := 1) (i := j)
  rw [Nat.shiftLeft_eq, Nat.shiftLeft_eq, Nat.shiftLeft_eq, Nat.one_mul, xor_one] at h
  exact h.symm
/-- Where the tree beside begins. -/
def besF (i j : Nat) : Nat := sib (i / 2 ^ j) * 2 ^ j
theorem pow_split {j m : Nat} (h : j < m) : ∃ d, 2 ^ m = (2 * d) * 2 ^ j ∧ 0 < d := by
  refine ⟨2 ^ (m - j - 1), ?_, Nat.pow_pos (by omega)⟩
  rw [Nat.mul_comm 2, ← Nat.pow_succ, ← Nat.pow_add]
  congr 1
  omega
theorem sib_lt {a d : Nat} (h : a < 2 * d) : sib a < 2 * d := by
  unfold sib
  split <;> omega
theorem sib_add (a d : Nat) : sib (2 * d + a) = 2 * d + sib a := by
  unfold sib
  split <;> split <;> omega
theorem besF_low {i j m : Nat} (hj : j < m) (hi : i < 2 ^ m) : besF i j + 2 ^ j ≤ 2 ^ m := by
  obtain ⟨d, hd, _⟩ := pow_split hj
  have hp : 0 < 2 ^ j := Nat.pow_pos (by omega)
  have h1 : i / 2 ^ j < 2 * d := (Nat.div_lt_iff_lt_mul hp).2 (by omega)
  have h2 := sib_lt h1
  unfold besF
  rw [hd, ← Nat.succ_mul]
  exact Nat.mul_le_mul_right _ h2
theorem besF_high {i j m : Nat} (hj : j < m) (hi : 2 ^ m ≤ i) : besF i j = 2 ^ m + besF (i - 2 ^ m) j := by
  obtain ⟨d, hd, _⟩ := pow_split hj
  have hp : 0 < 2 ^ j := Nat.pow_pos (by omega)
  obtain ⟨k, rfl⟩ : ∃ k, i = k + 2 * d * 2 ^ j := ⟨i - 2 ^ m, by omega⟩
  unfold besF
  rw [hd, Nat.add_sub_cancel, Nat.add_mul_div_right _ _ hp, Nat.add_comm (k / 2 ^ j), sib_add, Nat.add_mul]
theorem besF_top_low {i m : Nat} (hi : i < 2 ^ m) : besF i m = 2 ^ m := by
  unfold besF
  rw [Nat.div_eq_of_lt hi]
  show 1 * 2 ^ m = 2 ^ m
  omega
theorem besF_top_high {i m : Nat} (h1 : 2 ^ m ≤ i) (h2 : i < 2 * 2 ^ m) : besF i m = 0 := by
  have hp : 0 < 2 ^ m := Nat.pow_pos (by omega)
  have h : i / 2 ^ m = 1 := by
    have h3 : i / 2 ^ m < 2 := (Nat.div_lt_iff_lt_mul hp).2 h2
    have h4 : 1 ≤ i / 2 ^ m := (Nat.le_div_iff_mul_le hp).2 (by omega)
    omega
  unfold besF
  rw [h]
  show 0 * 2 ^ m = 0
  omega
/-- As the program has it: the place's tree begins at a multiple of its places. -/
theorem besF_xor (i j : Nat) : (i / 2 ^ j * 2 ^ j) ^^^ (2 ^ j) = besF i j := sib_xor _ _

/-- The path's part of one size of trees. -/
def merB (l : List (List UInt8)) (i j : Nat) : List (List UInt8) := if besF i j < l.length then [merR ((l.drop (besF i j)).take (2 ^ j))] else []
/-- The path's parts of the first sizes. -/
def merL (l : List (List UInt8)) (i : Nat) : Nat → List (List UInt8)
  | 0 => []
  | j + 1 => merL l i j ++ merB l i j
theorem merL_low {l : List (List UInt8)} {i m : Nat} (hi : i < 2 ^ m) (hl : 2 ^ m ≤ l.length) : ∀ j, j ≤ m → merL l i j = merL (l.take (2 ^ m)) i j
  | 0, _ => rfl
  | j + 1, h => by
    rw [merL, merL, merL_low hi hl j (by omega)]
    have hb := besF_low (i := i) (j := j) (m := m) (by omega) hi
    have hp : 0 < 2 ^ j := Nat.pow_pos (by omega)
    unfold merB
    rw [if_pos (by omega), if_pos (by rw [List.length_take]; omega), List.drop_take, List.take_take, Nat.min_eq_left (by omega)]
theorem merL_high {l : List (List UInt8)} {i m : Nat} (hi : 2 ^ m ≤ i) (hl : 2 ^ m ≤ l.length) : ∀ j, j ≤ m → merL l i j = merL (l.drop (2 ^ m)) (i - 2 ^ m) j
  | 0, _ => rfl
  | j + 1, h => by
    rw [merL, merL, merL_high hi hl j (by omega)]
    have hb := besF_high (i := i) (j := j) (m := m) (by omega) hi
    unfold merB
    rw [hb, List.length_drop, List.drop_drop]
    by_cases c : 2 ^ m + besF (i - 2 ^ m) j < l.length
    · rw [if_pos c, if_pos (by omega)]
    · rw [if_neg c, if_neg (by omega)]
/-- All of them are the path. -/
theorem merL_path : ∀ (m : Nat) (l : List (List UInt8)) (i : Nat), l.length ≤ 2 ^ m → i < l.length → merL l i m = merP l i
  | 0, l, i, h, hi => by
    rw [merP_few i (by simp at h; omega)]
    rfl
  | m + 1, l, i, h, hi => by
    rw [Nat.pow_succ] at h
    have hp : 0 < 2 ^ m := Nat.pow_pos (by omega)
    rw [merL]
    unfold merB
    by_cases c : l.length ≤ 2 ^ m
    · rw [merL_path m l i c hi, besF_top_low (by omega), if_neg (by omega), List.append_nil]
    · have h2 : 2 ≤ l.length := by omega
      have hk : merK l.length = 2 ^ m := merK_of h2 (by omega) (by omega)
      by_cases e : i < 2 ^ m
      · rw [merP_low h2 (by omega), hk, merL_low e (by omega) m (Nat.le_refl _), merL_path m (l.take (2 ^ m)) i (by rw [List.length_take]; omega) (by rw [List.length_take]; omega),
          besF_top_low e, if_pos (by omega), List.take_of_length_le (l := l.drop (2 ^ m)) (i := 2 ^ m) (by rw [List.length_drop]; omega)]
      · rw [merP_high h2 (by omega), hk, merL_high (by omega) (by omega) m (Nat.le_refl _), merL_path m (l.drop (2 ^ m)) (i - 2 ^ m) (by rw [List.length_drop]; omega) (by rw [List.length_drop]; omega),
          besF_top_high (by omega) (by omega), if_pos (by omega), List.drop_zero]
theorem merL_length (l : List (List UInt8)) (i : Nat) : ∀ j, (merL l i j).length ≤ j
  | 0 => Nat.le_refl _
  | j + 1 => by
    rw [merL, List.length_append]
    have := merL_length l i j
    unfold merB
    split
    · rw [List.length_singleton]; omega
    · rw [List.length_nil]; omega

/-- One size of trees, of the check. -/
def merS (n i j : Nat) (s : List UInt8 × List (List UInt8)) : Option (List UInt8 × List (List UInt8)) :=
  if besF i j < n then (if s.2.length = 0 then none else some (sha256 (1 :: (if i < besF i j then s.1 ++ s.2.headD [] else s.2.headD [] ++ s.1)), s.2.drop 1)) else some s
/-- The first sizes of trees, of the check. -/
def merV (n i : Nat) (b : List UInt8) (p : List (List UInt8)) : Nat → Option (List UInt8 × List (List UInt8))
  | 0 => some (sha256 (0 :: b), p)
  | j + 1 => (merV n i b p j).bind (merS n i j)
theorem merV_low {n i m : Nat} (b : List UInt8) (p : List (List UInt8)) (hi : i < 2 ^ m) (hn : 2 ^ m ≤ n) : ∀ j, j ≤ m → merV n i b p j = merV (2 ^ m) i b p j
  | 0, _ => rfl
  | j + 1, h => by
    rw [merV, merV, merV_low b p hi hn j (by omega)]
    have hb := besF_low (i := i) (j := j) (m := m) (by omega) hi
    have hp : 0 < 2 ^ j := Nat.pow_pos (by omega)
    congr 1
    funext s
    have e1 : besF i j < n := by omega
    have e2 : besF i j < 2 ^ m := by omega
    unfold merS
    rw [if_pos e1, if_pos e2]
theorem merV_high {n i m : Nat} (b : List UInt8) (p : List (List UInt8)) (hi : 2 ^ m ≤ i) (hn : 2 ^ m ≤ n) : ∀ j, j ≤ m → merV n i b p j = merV (n - 2 ^ m) (i - 2 ^ m) b p j
  | 0, _ => rfl
  | j + 1, h => by
    rw [merV, merV, merV_high b p hi hn j (by omega)]
    have hb := besF_high (i := i) (j := j) (m := m) (by omega) hi
    congr 1
    funext s
    unfold merS
    rw [hb]
    have e1 : (2 ^ m + besF (i - 2 ^ m) j < n) = (besF (i - 2 ^ m) j < n - 2 ^ m) := propext (by omega)
    have e2 : (i < 2 ^ m + besF (i - 2 ^ m) j) = (i - 2 ^ m < besF (i - 2 ^ m) j) := propext (by omega)
    simp only [e1, e2]
theorem take_more {α : Type} [Inhabited α] (d : α) {p : List α} {c : Nat} (h : c < p.length) : (p.take (c + 1)).dropLast = p.take c ∧ (p.take (c + 1)).getLastD d = (p.drop c).headD d := by
  have e : p.take (c + 1) = p.take c ++ [p[c]] := by rw [List.take_add_one, List.getElem?_eq_getElem h]; rfl
  refine ⟨by rw [e, List.dropLast_concat], ?_⟩
  rw [e, List.getLastD_concat, List.drop_eq_getElem_cons h]
  rfl
/-- What the check's loop leads to. -/
theorem merV_said : ∀ (m n i : Nat) (b : List UInt8), n ≤ 2 ^ m → i < n → ∃ c, (∀ q : List (List UInt8), q.length ≠ c → merU n i b q = none) ∧ (∀ p : List (List UInt8), p.length < c → merV n i b p m = none) ∧
    (∀ p : List (List UInt8), c ≤ p.length → ∃ h, merU n i b (p.take c) = some h ∧ merV n i b p m = some (h, p.drop c))
  | 0, n, i, b, h, hi => by
    obtain rfl : n = 1 := by simp at h; omega
    refine ⟨0, fun q hq => ?_, fun p hp => by omega, fun p _ => ⟨sha256 (0 :: b), ?_, rfl⟩⟩
    · rw [merU_one, if_neg hq]
    · rw [merU_one, if_pos (by simp)]
  | m + 1, n, i, b, h, hi => by
    rw [Nat.pow_succ] at h
    have hp : 0 < 2 ^ m := Nat.pow_pos (by omega)
    by_cases cn : n ≤ 2 ^ m
    · obtain ⟨c, h1, h2, h3⟩ := merV_said m n i b cn hi
      have hS : ∀ p, merV n i b p (m + 1) = merV n i b p m := fun p => by
        rw [merV]
        cases merV n i b p m with
        | none => rfl
        | some s =>
          show merS n i m s = some s
          unfold merS
          rw [besF_top_low (by omega), if_neg (by omega)]
      exact ⟨c, h1, fun p hq => by rw [hS]; exact h2 p hq, fun p hq => by rw [hS]; exact h3 p hq⟩
    · have hn2 : 2 ≤ n := by omega
      have hk : merK n = 2 ^ m := merK_of hn2 (by omega) (by omega)
      by_cases e : i < 2 ^ m
      · obtain ⟨c, h1, h2, h3⟩ := merV_said m (2 ^ m) i b (Nat.le_refl _) e
        have hV : ∀ p, merV n i b p (m + 1) = (merV (2 ^ m) i b p m).bind (merS n i m) := fun p => by rw [merV, merV_low b p e (by omega) m (Nat.le_refl _)]
        refine ⟨c + 1, fun q hq => ?_, fun p hq => ?_, fun p hq => ?_⟩
        · by_cases z : q.length = 0
          · exact merU_none i b hn2 z
          · rw [merU_low b hn2 z (by omega), hk, h1 q.dropLast (by rw [List.length_dropLast]; omega)]
            rfl
        · rw [hV]
          by_cases z : p.length < c
          · rw [h2 p z]
            rfl
          · obtain ⟨r, _, h5⟩ := h3 p (by omega)
            rw [h5]
            show merS n i m _ = none
            unfold merS
            rw [besF_top_low e, if_pos (by omega), if_pos (by simp only [List.length_drop]; omega)]
        · obtain ⟨r, h4, h5⟩ := h3 p (by omega)
          obtain ⟨t1, t2⟩ := take_more ([] : List UInt8) (p := p) (c := c) (by omega)
          refine ⟨sha256 (1 :: (r ++ (p.drop c).headD [])), ?_, ?_⟩
          · rw [merU_low b hn2 (by rw [List.length_take]; omega) (by omega), hk, t1, t2, h4]
            rfl
          · rw [hV, h5]
            show merS n i m _ = _
            unfold merS
            rw [besF_top_low e, if_pos (by omega), if_neg (by simp only [List.length_drop]; omega), if_pos e, List.drop_drop]
      · obtain ⟨c, h1, h2, h3⟩ := merV_said m (n - 2 ^ m) (i - 2 ^ m) b (by omega) (by omega)
        have hV : ∀ p, merV n i b p (m + 1) = (merV (n - 2 ^ m) (i - 2 ^ m) b p m).bind (merS n i m) := fun p => by rw [merV, merV_high b p (by omega) (by omega) m (Nat.le_refl _)]
        have ht := besF_top_high (i := i) (m := m) (by omega) (by omega)
        refine ⟨c + 1, fun q hq => ?_, fun p hq => ?_, fun p hq => ?_⟩
        · by_cases z : q.length = 0
          · exact merU_none i b hn2 z
          · rw [merU_high b hn2 z (by omega), hk, h1 q.dropLast (by rw [List.length_dropLast]; omega)]
            rfl
        · rw [hV]
          by_cases z : p.length < c
          · rw [h2 p z]
            rfl
          · obtain ⟨r, _, h5⟩ := h3 p (by omega)
            rw [h5]
            show merS n i m _ = none
            unfold merS
            rw [ht, if_pos (by omega), if_pos (by simp only [List.length_drop]; omega)]
        · obtain ⟨r, h4, h5⟩ := h3 p (by omega)
          obtain ⟨t1, t2⟩ := take_more ([] : List UInt8) (p := p) (c := c) (by omega)
          refine ⟨sha256 (1 :: ((p.drop c).headD [] ++ r)), ?_, ?_⟩
          · rw [merU_high b hn2 (by rw [List.length_take]; omega) (by omega), hk, t1, t2, h4]
            rfl
          · rw [hV, h5]
            show merS n i m _ = _
            unfold merS
            rw [ht, if_pos (by omega), if_neg (by simp only [List.length_drop]; omega), if_neg (by omega), List.drop_drop]
/-- The check's answer, of what its loop leads to. -/
def merE (root : List UInt8) : Option (List UInt8 × List (List UInt8)) → Bool
  | none => false
  | some s => decide (s.2.length = 0) && decide (s.1 = root)
theorem merE_said (root : List UInt8) {m n i : Nat} (b : List UInt8) (p : List (List UInt8)) (h : n ≤ 2 ^ m) (hi : i < n) : merE root (merV n i b p m) = decide (merU n i b p = some root) := by
  obtain ⟨c, h1, h2, h3⟩ := merV_said m n i b h hi
  by_cases z : p.length < c
  · rw [h2 p z, h1 p (by omega)]
    rfl
  · obtain ⟨r, h4, h5⟩ := h3 p (by omega)
    rw [h5]
    show (decide ((p.drop c).length = 0) && decide (r = root)) = _
    by_cases y : p.length = c
    · rw [List.take_of_length_le (by omega)] at h4
      rw [h4, decide_eq_true (by rw [List.length_drop]; omega), Bool.true_and]
      exact decide_eq_decide.2 ⟨congrArg some, Option.some.inj⟩
    · rw [h1 p y, decide_eq_false (by rw [List.length_drop]; omega)]
      rfl

end Go.Proofs.YtcadfccijeodbaaDoor

/- The walks of the program's own cut and beside, over bits.Len. Each theorem names its own conditions. -/
namespace Go.Proofs.YtcadfccijeodbaaDoor
open Go.RowKit
set_option linter.unusedVariables false
set_option linter.unusedSimpArgs false

theorem bit_log (x : Nat) (h : x < 2 ^ 64) (h0 : x ≠ 0) : Lib.bitLen x = Nat.log2 x + 1 := by
  induction x using Nat.strongRecOn with
  | _ x ih =>
    rw [Lib.bitLen_half x h0 h, Nat.log2_def x]
    by_cases h2 : 2 ≤ x
    · rw [ih (x / 2) (by omega) (by omega) (by omega), if_pos h2]
      omega
    · obtain rfl : x = 1 := by omega
      simp [Lib.bitLen, Lib.bitLenAux]

set_option maxHeartbeats 4000000 in
set_option maxRecDepth 100000 in
theorem mer_len64 (x : Int) (w : World) (h0 : 0 ≤ x) (h1 : x < 16777216) :
    Calls Tryd.prog 40 #[.int .u64 x] w fun e w' => e = .returned (.int .i64 (Lib.bitLen x.toNat)) ∧ w = w' := by
  have h2 : ¬ 4294967296 ≤ x := by omega
  by_cases c : x < 256
  · have a1 : ¬ 65536 ≤ x := by omega
    have a2 : ¬ 256 ≤ x := by omega
    have a3 : x ≤ 255 := by omega
    clear h1 c
    go_enter Tryd.func40, Tryd.ntmps40
    go_wp2_with fail
    go_ret
    refine ⟨congrArg Ending.returned (congrArg (Value.int IntKind.i64) ?_), rfl⟩
    rw [Lib.len8_of x h0 a3]
    have l := Lib.bitLen_le8' x h0 a3
    unfold wrap64
    omega
  · by_cases d : x < 65536
    · have a1 : ¬ 65536 ≤ x := by omega
      have a2 : 256 ≤ x := by omega
      have a3 : x / 256 ≤ 255 := by omega
      have a4 : 0 ≤ x / 256 := by omega
      have s := Lib.hid (Lib.bitLen_shift8 x.toNat (by omega) (by omega))
      clear h1 c d
      go_enter Tryd.func40, Tryd.ntmps40
      go_wp2_with fail
      go_ret
      refine ⟨congrArg Ending.returned (congrArg (Value.int IntKind.i64) ?_), rfl⟩
      rw [Lib.len8_of (x / 256) a4 a3]
      have l := Lib.bitLen_le8' (x / 256) a4 a3
      have e : (x / 256).toNat = x.toNat / 256 := by omega
      have s := s.out
      rw [e] at l ⊢
      unfold wrap64
      omega
    · have a1 : 65536 ≤ x := by omega
      have a2 : ¬ 256 ≤ x / 65536 := by omega
      have a3 : x / 65536 ≤ 255 := by omega
      have a4 : 0 ≤ x / 65536 := by omega
      have s := Lib.hid (Lib.bitLen_shift16 x.toNat (by omega) (by omega))
      clear h1 c d
      go_enter Tryd.func40, Tryd.ntmps40
      go_wp2_with fail
      go_ret
      refine ⟨congrArg Ending.returned (congrArg (Value.int IntKind.i64) ?_), rfl⟩
      rw [Lib.len8_of (x / 65536) a4 a3]
      have l := Lib.bitLen_le8' (x / 65536) a4 a3
      have e : (x / 65536).toNat = x.toNat / 65536 := by omega
      have s := s.out
      rw [e] at l ⊢
      unfold wrap64
      omega
theorem mer_len (x : Int) (w : World) (h0 : 0 ≤ x) (h1 : x < 16777216) :
    Calls Tryd.prog 32 #[.int .u64 x] w fun e w' => e = .returned (.int .i64 (Lib.bitLen x.toNat)) ∧ w = w' := by
  go_enter Tryd.func32, Tryd.ntmps32
  go_wp2_with (go_at_call 40; refine (mer_len64 x _ h0 h1).mono ?_; rintro e w' ⟨rfl, rfl⟩)
  go_ret
  exact ⟨rfl, rfl⟩
theorem w64n (n : Nat) (h : n < 9223372036854775808) : wrap64 (n : Int) = (n : Int) := by
  rw [← IntWalk.i64_left]
  exact IntWalk.i64_in _ (by omega)
set_option maxHeartbeats 400000 in
theorem mcut_any (n : Nat) (w : World) (h2 : 2 ≤ n) (hn : n ≤ 1048576) :
    Calls Tryd.prog 20 #[.int .i64 (n : Int)] w fun e w' => e = .returned (.int .i64 ((merK n : Nat) : Int)) ∧ w = w' := by
  have HC := Lib.hid (fun w => mer_len ((n - 1 : Nat) : Int) w (by omega) (by omega))
  obtain ⟨k, hk⟩ : ∃ k, k = Nat.log2 (n - 1) := ⟨_, rfl⟩
  have HL : Hid (Lib.bitLen ((n - 1 : Nat) : Int).toNat = k + 1) := Lib.hid (by rw [Int.toNat_natCast, bit_log _ (by omega) (by omega), hk])
  have HK : Hid (merK n = 2 ^ k) := Lib.hid (by unfold merK; rw [hk])
  have k20 : k < 21 := by
    have h := merK_lt h2
    rw [HK.out] at h
    exact (Nat.pow_lt_pow_iff_right (by decide : 1 < 2)).1 (by omega : 2 ^ k < 2 ^ 21)
  have HP : Hid (2 ^ k < 2097152) := Lib.hid (by
    have h := merK_lt h2
    rw [HK.out] at h
    omega)
  rw [HL.out] at HC
  have e1 : (n : Int) - 1 = ((n - 1 : Nat) : Int) := by omega
  clear hk
  go_enter Tryd.func20, Tryd.ntmps20
  go_wp2_with (go_at_call 32; refine (HC.out _).mono ?_; rintro e w' ⟨rfl, rfl⟩)
  go_ret
  refine ⟨congrArg Ending.returned (congrArg (Value.int IntKind.i64) ?_), rfl⟩
  have := HP.out
  have e : (2 : Int) ^ k = ((2 ^ k : Nat) : Int) := (Int.natCast_pow 2 k).symm
  rw [HK.out, e]
  exact w64n _ (by omega)

theorem xor_i64M (a b : Nat) (ha : a < 9223372036854775808) (hb : b < 9223372036854775808) : bits .xor .i64 (a : Int) (b : Int) = ((a ^^^ b : Nat) : Int) := by
  have e1 : (BitVec.ofInt 64 (a : Int)).toNat = a := by rw [BitVec.toNat_ofInt]; omega
  have e2 : (BitVec.ofInt 64 (b : Int)).toNat = b := by rw [BitVec.toNat_ofInt]; omega
  show IntKind.i64.wrap ((BitVec.ofInt 64 (a : Int) ^^^ BitVec.ofInt 64 (b : Int)).toNat : Nat) = _
  have e3 : a ^^^ b < 2 ^ 63 := Nat.xor_lt_two_pow ha hb
  rw [BitVec.toNat_xor, e1, e2, IntKind.wrap_i64]
  omega
theorem bes_num {i s f n : Nat} (hi : i < n) (hs : s < n) (hn : n ≤ 1048576) (hx : (i / s * s) ^^^ s = f) : bits .xor .i64 (wrap64 (wrap64 ((i : Int) / (s : Int)) * (s : Int))) (s : Int) = (f : Int) := by
  have h1 : i / s ≤ i := Nat.div_le_self _ _
  have h2 : i / s * s ≤ i := Nat.div_mul_le_self _ _
  rw [← Int.natCast_ediv, w64n _ (by omega), ← Int.natCast_mul, w64n _ (by omega), xor_i64M _ _ (by omega) (by omega), hx]
theorem bes_lt {i s f n : Nat} (hi : i < n) (hs : s < n) (hn : n ≤ 1048576) (hx : (i / s * s) ^^^ s = f) : f < 2097152 := by
  have h2 : i / s * s ≤ i := Nat.div_mul_le_self _ _
  rw [← hx]
  exact Nat.xor_lt_two_pow (n := 21) (by omega) (by omega)
theorem res_twoM {fn : Func} {i j : Nat} (hf : fn.results = #[.tmp i, .tmp j]) (tmps : Array Value) (w : World) :
    (results fn tmps).run Tryd.prog w = .ok (.tuple #[tmps.getD i undef, tmps.getD j undef]) w := by
  unfold results
  rw [hf]
  simp
/-- What stands beside: from and to. -/
theorem mbeside_any (n i j : Nat) (w : World) (hi : i < n) (hj : 2 ^ j < n) (hn : n ≤ 1048576) :
    Calls Tryd.prog 24 #[.int .i64 (n : Int), .int .i64 (i : Int), .int .i64 ((2 ^ j : Nat) : Int)] w fun e w' => e = .returned (.tuple #[.int .i64 ((besF i j : Nat) : Int), .int .i64 ((min (besF i j + 2 ^ j) n : Nat) : Int)]) ∧ w = w' := by
  have HX := Lib.hid (besF_xor i j)
  have HP : Hid (0 < 2 ^ j) := Lib.hid (Nat.pow_pos (by omega))
  generalize besF i j = f at *
  generalize 2 ^ j = s at *
  have n0 : (0 : Int) ≤ (n : Int) := Int.natCast_nonneg _
  have i0 : (0 : Int) ≤ (i : Int) := Int.natCast_nonneg _
  have s1 : (1 : Int) ≤ (s : Int) := by have := HP.out; omega
  go_enter Tryd.func24, Tryd.ntmps24
  go_wp2_with fail
  refine bodyPost_ret (res_twoM rfl _ _) rfl ⟨congrArg Ending.returned ?_, rfl⟩
  have e1 := bes_num hi hj hn HX.out
  have e2 := bes_lt hi hj hn HX.out
  have e3 : wrap64 ((f : Int) + (s : Int)) = ((f + s : Nat) : Int) := by
    rw [← Int.natCast_add]
    exact w64n _ (by omega)
  have e4 : ((min (f + s) n : Nat) : Int) = min ((f + s : Nat) : Int) (n : Int) := by omega
  rw [e1, e3, e4]
  rfl
end Go.Proofs.YtcadfccijeodbaaDoor

/- s[n:] of whatever reads as a list, whatever its address. Nothing here speaks of a program. Each theorem names its own conditions. -/
namespace Go.Proofs.YtcadfccijeodbaaDoor
open Go.RowKit
set_option linter.unusedVariables false

section
variable {P : Program} {w : World}
theorem row_cut {t e : TypeId} (ht : P.underlying t = some (.slice e)) (hs : ∀ w, (sizeOf e).run P w = .ok 1 w) {v : Value} {vs : List Value} (h : Row1 w v vs) (n : Nat) (hn : n ≤ vs.length) :
    ∃ v', Row1 w v' (vs.drop n) ∧ ∀ w', (Instr.sliceAt t v (some (.int .i64 (n : Int))) none none).run P w' = .ok v' w' := by
  obtain ⟨a, cap, rfl, h1, h2, h3, h4⟩ := h
  have e2 : P.elem t = e := by unfold Program.elem; rw [ht]
  have ht2 : P.underlying t = some (.slice (P.elem t)) := by rw [e2]; exact ht
  have hr : ∀ w', (Instr.sliceAt t (.slice a vs.length cap) (some (.int .i64 (n : Int))) none none).run P w' = .ok (sliced a n vs.length cap 1) w' := fun w' => by
    rw [run_sliceAt_slice w' t _ _ _ _ ht2, run_slice_l (ht := ht2) (kl := .i64) (l := (n : Int)) (h0 := by omega) (h1 := by omega), e2, hs]
    simp
  refine ⟨_, ?_, hr⟩
  have hl : (vs.drop n).length = vs.length - n := by simp
  unfold sliced
  by_cases hc : cap = n
  · rw [if_pos hc]
    have hv : vs.drop n = [] := List.drop_eq_nil_of_le (by omega)
    rw [hv]
    refine ⟨a, cap - n, by rw [show vs.length - n = 0 from by omega]; rfl, Nat.zero_le _, by omega, fun e => by have := h3 e; omega, fun h => absurd rfl h⟩
  · rw [if_neg hc]
    refine ⟨a.map (·.add (n * 1)), cap - n, by rw [hl], by rw [hl]; omega, by omega, fun e => ?_, fun hne => ?_⟩
    · cases a with
      | none => have := h3 rfl; omega
      | some a => cases e
    · have hne2 : vs ≠ [] := by rintro rfl; simp at hne
      obtain ⟨b, off, rfl, g1, g2⟩ := h4 hne2
      refine ⟨b, off + n, by rw [Option.map_some, WideShapes.add_plain, Nat.mul_one], g1, fun i hi => ?_⟩
      rw [hl] at hi
      rw [Nat.add_assoc, g2 (n + i) (by omega), List.getElem?_drop]
/-- A part of what reads as a list, by the address that slicing makes of it. -/
theorem row_sliced {a : Option Addr} {cap : Nat} {vs : List Value} (h : Row1 w (.slice a vs.length cap) vs) (i k : Nat) (hik : i ≤ k) (hk : k ≤ vs.length) : Row1 w (sliced a i k cap 1) ((vs.drop i).take (k - i)) := by
  obtain ⟨a0, cap0, e0, h1, h2, h3, h4⟩ := h
  cases e0
  have hl : ((vs.drop i).take (k - i)).length = k - i := by simp; omega
  unfold sliced
  by_cases hc : cap = i
  · rw [if_pos hc]
    have hv : (vs.drop i).take (k - i) = [] := List.eq_nil_of_length_eq_zero (by omega)
    rw [hv]
    refine ⟨a, cap - i, by rw [show k - i = 0 from by omega]; rfl, Nat.zero_le _, by omega, fun e => by have := h3 e; omega, fun h => absurd rfl h⟩
  · rw [if_neg hc]
    refine ⟨a.map (·.add (i * 1)), cap - i, by rw [hl], by rw [hl]; omega, by omega, fun e => ?_, fun hne => ?_⟩
    · cases a with
      | none => have := h3 rfl; omega
      | some a => cases e
    · have hne2 : vs ≠ [] := by rintro rfl; simp at hne
      obtain ⟨b, off, rfl, g1, g2⟩ := h4 hne2
      refine ⟨b, off + i, by rw [Option.map_some, WideShapes.add_plain, Nat.mul_one], g1, fun j hj => ?_⟩
      rw [hl] at hj
      rw [Nat.add_assoc, g2 (i + j) (by omega), List.getElem?_take, if_pos hj, List.getElem?_drop]
/-- s[:k]. -/
theorem row_upto {t e : TypeId} (ht : P.underlying t = some (.slice e)) (hs : ∀ w, (sizeOf e).run P w = .ok 1 w) {v : Value} {vs : List Value} (h : Row1 w v vs) (k : Nat) (hk : k ≤ vs.length) :
    ∃ v', Row1 w v' (vs.take k) ∧ ∀ w', (Instr.sliceAt t v none (some (.int .i64 (k : Int))) none).run P w' = .ok v' w' := by
  obtain ⟨a, cap, rfl, h1, _⟩ := id h
  have e2 : P.elem t = e := by unfold Program.elem; rw [ht]
  have ht2 : P.underlying t = some (.slice (P.elem t)) := by rw [e2]; exact ht
  refine ⟨sliced a 0 k cap 1, by simpa using row_sliced h 0 k (Nat.zero_le _) hk, fun w' => ?_⟩
  rw [run_sliceAt_slice w' t _ _ _ _ ht2, run_slice_h (ht := ht2) (kh := .i64) (h := (k : Int)) (h0 := by omega) (h2 := by omega), e2, hs]
  simp
/-- s[i:k]. -/
theorem row_mid {t e : TypeId} (ht : P.underlying t = some (.slice e)) (hs : ∀ w, (sizeOf e).run P w = .ok 1 w) {v : Value} {vs : List Value} (h : Row1 w v vs) (i k : Nat) (hik : i ≤ k) (hk : k ≤ vs.length) :
    ∃ v', Row1 w v' ((vs.drop i).take (k - i)) ∧ ∀ w', (Instr.sliceAt t v (some (.int .i64 (i : Int))) (some (.int .i64 (k : Int))) none).run P w' = .ok v' w' := by
  obtain ⟨a, cap, rfl, h1, _⟩ := id h
  have e2 : P.elem t = e := by unfold Program.elem; rw [ht]
  have ht2 : P.underlying t = some (.slice (P.elem t)) := by rw [e2]; exact ht
  refine ⟨sliced a i k cap 1, row_sliced h i k hik hk, fun w' => ?_⟩
  rw [run_sliceAt_slice w' t _ _ _ _ ht2, run_slice_lh (ht := ht2) (kl := .i64) (kh := .i64) (l := (i : Int)) (h := (k : Int)) (h0 := by omega) (h1 := by omega) (h2 := by omega), e2, hs]
  simp
/-- Rows of rows. -/
theorem rowB1 {v x : Value} {l : List UInt8} (h : Row1 w v [x]) (hx : Row1 w x (l.map bval)) : RowB w v [l] :=
  ⟨_, h, rfl, fun i y k hy hk => by
    match i with
    | 0 => simp at hy hk; subst hy; subst hk; exact hx
    | i + 1 => simp at hy⟩
theorem rowB2 {v x y : Value} {l m : List UInt8} (h : Row1 w v [x, y]) (hx : Row1 w x (l.map bval)) (hy : Row1 w y (m.map bval)) : RowB w v [l, m] :=
  ⟨_, h, rfl, fun i u k hu hk => by
    match i with
    | 0 => simp at hu hk; subst hu; subst hk; exact hx
    | 1 => simp at hu hk; subst hu; subst hk; exact hy
    | i + 2 => simp at hu⟩
theorem rowB3 {v x y z : Value} {l m n : List UInt8} (h : Row1 w v [x, y, z]) (hx : Row1 w x (l.map bval)) (hy : Row1 w y (m.map bval)) (hz : Row1 w z (n.map bval)) : RowB w v [l, m, n] :=
  ⟨_, h, rfl, fun i u k hu hk => by
    match i with
    | 0 => simp at hu hk; subst hu; subst hk; exact hx
    | 1 => simp at hu hk; subst hu; subst hk; exact hy
    | 2 => simp at hu hk; subst hu; subst hk; exact hz
    | i + 3 => simp at hu⟩
theorem rowB4 {v x y z u : Value} {l m n o : List UInt8} (h : Row1 w v [x, y, z, u]) (hx : Row1 w x (l.map bval)) (hy : Row1 w y (m.map bval)) (hz : Row1 w z (n.map bval)) (hu : Row1 w u (o.map bval)) : RowB w v [l, m, n, o] :=
  ⟨_, h, rfl, fun i q k hq hk => by
    match i with
    | 0 => simp at hq hk; subst hq; subst hk; exact hx
    | 1 => simp at hq hk; subst hq; subst hk; exact hy
    | 2 => simp at hq hk; subst hq; subst hk; exact hz
    | 3 => simp at hq hk; subst hq; subst hk; exact hu
    | i + 4 => simp at hq⟩
/-- A new block of cells that bears a mark, as a row. -/
theorem Row1.made_mark (w : World) (c : Array Value) (e : TypeId) (fr : Nat × Nat) (n m : Nat) (l : List Value) (hn : w.heap.size = n) (hc : c.toList = l) (hl : l.length = m) (hm : m ≤ maxLen) : Row1 (w.alloc (.cells c e fr)) (.slice (some ⟨n, 0, none⟩) m m) l := by
  subst hn; subst hl; subst hc
  refine ⟨_, _, rfl, Nat.le_refl _, hm, (fun e => by cases e), fun _ => ⟨w.heap.size, 0, rfl, by simp, fun i hi => ?_⟩⟩
  rw [Nat.zero_add, World.cell?_alloc_mark]
  simp
/-- A whole array, as a row. -/
theorem blk_row {c n : Nat} {cs : List Value} {t : TypeId} (h : Blk w c cs t) (hn : cs.length = n) (hm : n ≤ maxLen) : Row1 w (.slice (some ⟨c, 0, none⟩) n n) cs := by
  subst hn
  exact ⟨_, _, rfl, Nat.le_refl _, hm, (fun e => by cases e), fun _ => ⟨c, 0, rfl, h.lt, fun i _ => by rw [Nat.zero_add, h.cell]⟩⟩
/-- a[:] of an array that is a variable. -/
theorem cut_whole {t : TypeId} {n : Nat} {e : TypeId} (ht : P.underlying t = some (.array n e)) (h : ∀ w, (sizeOf e).run P w = .ok 1 w) (hn : 0 < n) (A : Nat) (w : World) :
    (Instr.sliceAt t (.pointer (some ⟨A, 0, none⟩)) none none none).run P w = .ok (.slice (some ⟨A, 0, none⟩) n n) w := by
  have e1 : P.arrayLen t = n := by unfold Program.arrayLen; rw [ht]
  have e2 : P.elem t = e := by unfold Program.elem; rw [ht]
  rw [run_sliceAt_array_all w t ⟨A, 0, none⟩ (by rw [e1, e2]; exact ht), e2, h, e1]
  simp [slicedAt, Addr.add, show ¬ n = 0 by omega]
end

end Go.Proofs.YtcadfccijeodbaaDoor

/- Slices whose elements are 32 bytes each (api.Num), read as lists of lists. Nothing here speaks of a program. Each theorem names its own conditions. -/
namespace Go.Proofs.YtcadfccijeodbaaDoor
open Go.ChangeShapes Go.WideShapes Go.RowKit
set_option linter.unusedVariables false

def Nums (ps : List (List UInt8)) : Prop := ∀ p ∈ ps, p.length = 32
theorem Nums.nil : Nums [] := fun p h => by cases h
theorem Nums.append {a b : List (List UInt8)} (ha : Nums a) (hb : Nums b) : Nums (a ++ b) := fun p h => (List.mem_append.1 h).elim (ha p) (hb p)
theorem Nums.one {p : List UInt8} (h : p.length = 32) : Nums [p] := fun q hq => by rw [List.mem_singleton.1 hq]; exact h
theorem Nums.take {a : List (List UInt8)} (ha : Nums a) (n : Nat) : Nums (a.take n) := fun p h => ha p (List.mem_of_mem_take h)
theorem Nums.dropLast {a : List (List UInt8)} (ha : Nums a) : Nums a.dropLast := fun p h => ha p (List.dropLast_subset a h)
theorem Nums.getD {a : List (List UInt8)} (ha : Nums a) {i : Nat} (hi : i < a.length) : (a.getD i []).length = 32 := by
  rw [List.getD_eq_getElem?_getD, List.getElem?_eq_getElem hi]
  exact ha _ (List.getElem_mem hi)
theorem Nums.set {a : List (List UInt8)} (ha : Nums a) (i : Nat) {p : List UInt8} (h : p.length = 32) : Nums (a.set i p) := fun q hq => (List.mem_or_eq_of_mem_set hq).elim (ha q) (fun e => by rw [e]; exact h)
theorem flat_length : ∀ {ps : List (List UInt8)}, Nums ps → ps.flatten.length = 32 * ps.length
  | [], _ => rfl
  | p :: ps, h => by
    rw [List.flatten_cons, List.length_append, List.length_cons, h p (List.mem_cons_self ..), flat_length (fun q hq => h q (List.mem_cons_of_mem _ hq))]
    omega
theorem flat_get : ∀ {ps : List (List UInt8)}, Nums ps → ∀ {i j : Nat}, i < ps.length → j < 32 → ps.flatten[32 * i + j]? = (ps.getD i [])[j]?
  | [], _, i, j, hi, _ => by simp at hi
  | p :: ps, h, 0, j, _, hj => by
    have hp := h p (List.mem_cons_self ..)
    rw [List.flatten_cons, Nat.mul_zero, Nat.zero_add, List.getElem?_append_left (by omega)]
    rfl
  | p :: ps, h, i + 1, j, hi, hj => by
    have hp := h p (List.mem_cons_self ..)
    rw [List.flatten_cons, List.getElem?_append_right (by omega), hp, show 32 * (i + 1) + j - 32 = 32 * i + j by omega,
      flat_get (fun q hq => h q (List.mem_cons_of_mem _ hq)) (by simpa using hi) hj]
    rfl
theorem flat_take : ∀ {ps : List (List UInt8)}, Nums ps → ∀ (n : Nat), (ps.take n).flatten = ps.flatten.take (32 * n)
  | [], _, n => by simp
  | p :: ps, h, 0 => by simp
  | p :: ps, h, n + 1 => by
    have hp := h p (List.mem_cons_self ..)
    rw [List.take_succ_cons, List.flatten_cons, List.flatten_cons, flat_take (fun q hq => h q (List.mem_cons_of_mem _ hq)) n, List.take_append, hp,
      show 32 * (n + 1) - 32 = 32 * n by omega, List.take_of_length_le (l := p) (by omega)]
theorem flat_snoc (ps : List (List UInt8)) (p : List UInt8) : (ps ++ [p]).flatten = ps.flatten ++ p := by simp

/-- A slice of numbers reads as the list of them. -/
def RowN (w : World) (v : Value) (ps : List (List UInt8)) : Prop :=
  Nums ps ∧ ∃ a cap, v = .slice a ps.length cap ∧ ps.length ≤ cap ∧ cap ≤ maxLen ∧ (a = none → cap = 0) ∧ (ps ≠ [] → ∃ b off, a = some ⟨b, off, none⟩ ∧ b < w.heap.size ∧ ∀ i, i < 32 * ps.length → w.cell? ⟨b, off + i, none⟩ = (ps.flatten.map bval)[i]?)

section
variable {P : Program} {w w' : World} {v : Value} {ps : List (List UInt8)}
theorem RowN.nums (h : RowN w v ps) : Nums ps := h.1
theorem RowN.nil (w : World) : RowN w (.slice none 0 0) [] := ⟨Nums.nil, none, 0, rfl, Nat.le_refl _, Nat.zero_le _, fun _ => rfl, fun h => absurd rfl h⟩
theorem RowN.same (h : RowN w v ps) (hs : w.heap.size ≤ w'.heap.size) (hc : ∀ p : Addr, v.ownBlock = some p.block → p.block < w.heap.size → w'.cell? p = w.cell? p) : RowN w' v ps := by
  obtain ⟨h0, a, cap, rfl, h1, h2, h3, h4⟩ := h
  refine ⟨h0, a, cap, rfl, h1, h2, h3, fun hne => ?_⟩
  obtain ⟨b, off, rfl, hb, hcell⟩ := h4 hne
  exact ⟨b, off, rfl, Nat.lt_of_lt_of_le hb hs, fun i hi => (hc ⟨b, off + i, none⟩ rfl hb).trans (hcell i hi)⟩
theorem RowN.below (h : RowN w v ps) (hb : Below w.heap.size w w') : RowN w' v ps := h.same hb.size fun _ _ hp => hb.cell hp
theorem RowN.grown {row : Option Nat} (h : RowN w v ps) (hg : w.grownBy w' row) (hne : ∀ k, row = some k → v.ownBlock ≠ some k) : RowN w' v ps :=
  h.same hg.size fun p hp hlt => hg.cell_far p hlt fun e => hne p.block e.symm hp
theorem RowN.form (h : RowN w v ps) : ∃ a cap, v = .slice a ps.length cap ∧ ps.length ≤ cap ∧ cap ≤ maxLen := by
  obtain ⟨_, a, cap, h1, h2, h3, _⟩ := h
  exact ⟨a, cap, h1, h2, h3⟩
/-- A row of the call's own reads as its numbers. -/
theorem RowN.of_own {base : Nat} {e : TypeId} {n : Nat} {vs : List Value} (h : w.ownsRow base e 32 v n vs) (hp : Nums ps) (hn : n = ps.length) (hv : vs = ps.flatten.map bval) : RowN w v ps := by
  subst hv; subst hn
  have hl : (ps.flatten.map bval).length = 32 * ps.length := by rw [List.length_map, flat_length hp]
  rcases h.2 with ⟨rfl, h0⟩ | ⟨g, cap, cur, rfl, hb, hg, h1, h2, _, _⟩
  · have : ps = [] := List.eq_nil_of_length_eq_zero h0
    subst this
    exact RowN.nil w
  · refine ⟨hp, some ⟨g, 0, none⟩, cap, rfl, by omega, h2, (fun e => by cases e), fun _ => ⟨g, 0, rfl, (h.lt g rfl).2, fun i hi => ?_⟩⟩
    rw [Nat.zero_add]
    exact h.cellAt i (by omega)
/-- Where an element lies. -/
theorem RowN.elem {a : Option Addr} {n cap : Nat} (h : RowN w (.slice a n cap) ps) (hne : 0 < ps.length) : ∃ b off, a = some ⟨b, off, none⟩ ∧ b < w.heap.size ∧ ∀ i, i < ps.length → w.rangeAt b (off + i * 32) ((ps.getD i []).map bval) := by
  obtain ⟨h0, a', cap', he, h1, h2, h3, h4⟩ := h
  injection he with e1 e2 e3
  subst e1
  obtain ⟨b, off, ha, hb, hc⟩ := h4 (by rintro rfl; simp at hne)
  refine ⟨b, off, ha, hb, fun i hi j v hj => ?_⟩
  have hl : (ps.getD i []).length = 32 := Nums.getD h0 hi
  have hj2 : j < 32 := by
    rcases Nat.lt_or_ge j 32 with h' | h'
    · exact h'
    · rw [List.getElem?_eq_none (by rw [List.length_map]; omega)] at hj; cases hj
  rw [Nat.add_assoc, Nat.mul_comm i 32, hc (32 * i + j) (by omega), List.getElem?_map, flat_get h0 hi hj2, ← hj, List.getElem?_map]
/-- s[:k]. -/
theorem RowN.upto {t e : TypeId} (ht : P.underlying t = some (.slice e)) (hs : ∀ w, (sizeOf e).run P w = .ok 32 w) (h : RowN w v ps) (k : Nat) (hk : k ≤ ps.length) :
    ∃ v', RowN w v' (ps.take k) ∧ ∀ w', (Instr.sliceAt t v none (some (.int .i64 (k : Int))) none).run P w' = .ok v' w' := by
  obtain ⟨h0, a, cap, rfl, h1, h2, h3, h4⟩ := h
  have e2 : P.elem t = e := by unfold Program.elem; rw [ht]
  have ht2 : P.underlying t = some (.slice (P.elem t)) := by rw [e2]; exact ht
  have hl : (ps.take k).length = k := by rw [List.length_take]; omega
  refine ⟨sliced a 0 k cap 32, ?_, fun w' => ?_⟩
  · unfold sliced
    by_cases hc : cap = 0
    · rw [if_pos hc]
      refine ⟨h0.take k, a, cap - 0, by rw [hl]; rfl, by rw [hl]; omega, by omega, fun e => by have := h3 e; omega, fun hne => ?_⟩
      exfalso
      exact hne (List.eq_nil_of_length_eq_zero (by omega))
    · rw [if_neg hc]
      refine ⟨h0.take k, a.map (·.add (0 * 32)), cap - 0, by rw [hl]; rfl, by rw [hl]; omega, by omega, fun e => ?_, fun hne => ?_⟩
      · cases a with
        | none => have := h3 rfl; omega
        | some a => cases e
      · obtain ⟨b, off, rfl, g1, g2⟩ := h4 (by rintro rfl; simp at hne)
        refine ⟨b, off, by rw [Option.map_some, WideShapes.add_plain, Nat.zero_mul, Nat.add_zero], g1, fun i hi => ?_⟩
        rw [hl] at hi
        rw [g2 i (by omega), List.getElem?_map, List.getElem?_map, flat_take h0, List.getElem?_take, if_pos hi]
  · rw [run_sliceAt_slice w' t _ _ _ _ ht2, run_slice_h (ht := ht2) (kh := .i64) (h := (k : Int)) (h0 := by omega) (h2 := by omega), e2, hs]
    simp
end

section
variable {H : Type} {enc : TypeId × Value → H} {P : Program} {W : World}
theorem cells_of_num {t e : TypeId} {fuel : Nat} {cs : List Value} {x : DataW H × List MemPlace} (ht : P.underlying t = some (.array 32 e)) (he : P.underlying e = some (.int .u8)) (hc : P.cellsOf e = 1) (hct : P.cellsOf t = 32)
    (h : DataW.trod enc P W 0 (fun _ => true) true fuel t cs = some x) : ∃ l : List UInt8, cs = l.map bval ∧ l.length = 32 := by
  obtain ⟨xs, m, _, _, hl, hxl, hx⟩ := DataW.trod_array ht h
  rw [hct] at hl
  have hone : ∀ c ∈ cs, ∃ n y, DataW.trod enc P W 0 (fun _ => true) true n e [c] = some y := fun c hcm => by
    obtain ⟨i, hi, rfl⟩ := List.getElem_of_mem hcm
    have := hx i (by omega)
    rw [hc, Nat.mul_one] at this
    refine ⟨m, xs[i]'(by omega), ?_⟩
    rw [List.getElem?_eq_getElem (by omega)] at this
    rw [← this]
    congr 1
    show [cs[i]] = (cs.drop i).take 1
    rw [List.drop_eq_getElem_cons hi]
    rfl
  obtain ⟨zs, hz, hw⟩ := list_of_all (f := Value.int .u8) (p := fun n => (Lit.int .u8 n).wf = true) (fun x hx => by
    obtain ⟨n, y, h⟩ := hone x hx
    exact cell_int he h)
  subst hz
  obtain ⟨l, e⟩ := bytes_of_ints hw
  refine ⟨l, e, ?_⟩
  have := congrArg List.length e
  rw [List.length_map, List.length_map] at this
  rw [List.length_map] at hl
  omega
/-- A slice of numbers, opened. -/
theorem open_nums {base0 : Nat} {r : Reach} {t q e : TypeId} {v : Value} {d : DataW H} {ps : List MemPlace} (ht : P.underlying t = some (.slice q)) (hq : P.underlying q = some (.array 32 e)) (he : P.underlying e = some (.int .u8)) (hc : P.cellsOf e = 1) (hcq : P.cellsOf q = 32)
    (hval : Value.okWide P W r base0 t v) (hd : DataW.Trod enc P W 0 (fun _ => true) true t v d ps) : ∃ l : List (List UInt8), RowN W v l := by
  obtain ⟨a, len, cap, rfl⟩ := okWide_slice ht hval
  obtain ⟨fuel, hf⟩ := hd
  have hf2 : DataW.trod enc P W 0 (fun _ => true) true fuel t [.slice a len cap] = some (d, ps) := by simpa [Value.cells] using hf
  rcases Deep.open_slice ht hf2 with ⟨hcs, _⟩ | ⟨a1, len1, cap1, m, n, D, Pl, hcs, hb, hl, hm, hmm, _, hx⟩
  · have hv : (Value.slice a len cap) = .slice none 0 0 := by simpa using hcs
    rw [hv]
    exact ⟨[], RowN.nil W⟩
  · have hv : (Value.slice a len cap) = .slice (some a1) len1 cap1 := by simpa using hcs
    rw [hv]
    simp only [if_true] at hmm
    have hspot : 0 < len1 → a1.spot = none := fun h0 => by
      obtain ⟨cs', h1, h2⟩ := hx 0 (by omega)
      rw [hcq] at h1
      obtain ⟨l, rfl, hll⟩ := cells_of_num hq he hc hcq h2
      obtain ⟨_, _, h3⟩ := World.cells?_some h1
      have h4 := h3 0 (by omega)
      rw [List.getElem?_eq_getElem (by rw [List.length_map]; omega)] at h4
      simpa [Addr.add] using World.cell?_spot h4
    obtain ⟨b, off, spot⟩ := a1
    have hel : ∀ i, i < len1 → ∃ l : List UInt8, l.length = 32 ∧ ∀ j, j < 32 → W.cell? ⟨b, off + (i * 32 + j), none⟩ = (l.map bval)[j]? := fun i hi => by
      obtain ⟨cs', h1, h2⟩ := hx i (by omega)
      rw [hcq] at h1
      obtain ⟨l, rfl, hll⟩ := cells_of_num hq he hc hcq h2
      obtain ⟨_, _, h3⟩ := World.cells?_some h1
      obtain rfl : spot = none := hspot (by omega)
      exact ⟨l, hll, fun j hj => by rw [← h3 j hj, WideShapes.add_plain, WideShapes.add_plain, Nat.add_assoc]⟩
    obtain ⟨f, hf⟩ := Deep.choose_lt hel
    have hps : ∀ i, i < len1 → ((List.range len1).map f).getD i [] = f i := fun i hi => by
      rw [List.getD_eq_getElem?_getD, List.getElem?_map, List.getElem?_range hi]
      rfl
    have hnum : Nums ((List.range len1).map f) := fun p hp => by
      obtain ⟨i, hi, rfl⟩ := List.mem_map.1 hp
      exact (hf i (by simpa using hi)).1
    refine ⟨(List.range len1).map f, hnum, some ⟨b, off, spot⟩, cap1, by simp, by simpa using hl, hm, (fun e => by cases e), fun hne => ?_⟩
    have h0 : 0 < len1 := by
      rcases Nat.eq_zero_or_pos len1 with h | h
      · subst h; exact absurd rfl hne
      · exact h
    have hc0 := (hf 0 h0).2 0 (by omega)
    rw [List.getElem?_eq_getElem (by rw [List.length_map, (hf 0 h0).1]; omega)] at hc0
    obtain rfl : spot = none := hspot h0
    refine ⟨b, off, rfl, World.block_lt_of_cell? W _ hc0, fun i hi => ?_⟩
    have hlen : ((List.range len1).map f).length = len1 := by simp
    rw [hlen] at hi
    have hd1 : i / 32 < len1 := by omega
    have hd2 : i % 32 < 32 := Nat.mod_lt _ (by omega)
    have hi3 : 32 * (i / 32) + i % 32 = i := by omega
    have h5 := flat_get hnum (i := i / 32) (j := i % 32) (by rw [hlen]; exact hd1) hd2
    rw [hi3, hps _ hd1] at h5
    rw [List.getElem?_map, h5, ← List.getElem?_map, ← (hf (i / 32) hd1).2 (i % 32) hd2]
    congr 3
    omega
end

end Go.Proofs.YtcadfccijeodbaaDoor

/- Further ends of a drawn region: two variables made in whatever order; a store and an assignment. Nothing here speaks of a program. Each theorem names its own conditions. -/
namespace Go.Proofs.YtcadfccijeodbaaDoor
open Go.RowKit
set_option linter.unusedVariables false

section
variable {P : Program} {ops : Array Oper} {Q : Exit → Act → World → Prop} {md : Region.Mode} {t : Nat} {C : World → Prop} {D : Act → Prop}

theorem run_alloc_zero {o : Oper} {a : Act} {ty : TypeId} {zs : List Value} (ho : o.op = .alloc ty) (hz : ∀ w, (zeroValue ty).run P w = .ok (.agg zs.toArray) w) (w : World) :
    (execOp a.eval o).run P w = .ok (.value (.pointer (some ⟨w.heap.size, 0, none⟩))) (w.alloc (.cells zs.toArray ty)) := by
  unfold execOp
  simp [ho, Instr.alloc, hz, newVar, newRow, Value.cells]

/-- The two stores into two variables that stand apart. -/
theorem two_stores {k : Nat} {o3 o4 : Oper} {listed : Array Bool} {a : Act} {w w' : World} (ty : TypeId) (d1 d2 p q : Nat) (y1 y2 : Operand) (zs vs1 vs2 : List Value) (hk3 : ops[k]? = some o3) (hk4 : ops[k + 1]? = some o4)
    (hr : Region.ready md ops listed = [k]) (hr2 : Region.ready md ops (listed.setIfInBounds k true) = [k + 1]) (hr3 : Region.ready md ops ((listed.setIfInBounds k true).setIfInBounds (k + 1) true) = [])
    (hg3 : o3.guard = none) (hg4 : o4.guard = none) (ho3 : o3.op = .store ty (.tmp d1) y1) (ho4 : o4.op = .store ty (.tmp d2) y2) (hn3 : o3.dst = none) (hn4 : o4.dst = none)
    (hx1 : a.eval (.tmp d1) = .pointer (some ⟨p, 0, none⟩)) (hx2 : a.eval (.tmp d2) = .pointer (some ⟨q, 0, none⟩)) (hy1 : a.eval y1 = .agg vs1.toArray) (hy2 : a.eval y2 = .agg vs2.toArray) (hpq : p ≠ q)
    (hb1 : Blk w' p zs ty) (hb2 : Blk w' q zs ty) (hl1 : vs1.length = zs.length) (hl2 : vs2.length = zs.length) (hi1 : (P.info? ty).map (·.size) = some vs1.length) (hi2 : (P.info? ty).map (·.size) = some vs2.length)
    (h1 : ∀ v ∈ vs1, v.oneCell' = true) (h2 : ∀ v ∈ vs2, v.oneCell' = true) (he : Ext w w') (hp : w.heap.size ≤ p) (hq : w.heap.size ≤ q)
    (h : ∀ w4, Blk w4 p vs1 ty → Blk w4 q vs2 ty → Ext w w4 → Q .normal a w4) : wpAny P md ops Q 2 listed a w' := by
  refine ⟨fun h0 => (by rw [hr] at h0; cases h0), fun i hi => ?_⟩
  rw [hr] at hi
  obtain rfl : i = k := by simpa using hi
  unfold wpOp
  simp only [hk3, Region.wanted, hg3, if_true]
  left
  refine wp_store_blk ty (.tmp d1) y1 ho3 p vs1 hx1 hy1 ty zs hb1 hl1 hi1 h1 fun w2 hb3 hg => ?_
  rw [hn3]
  refine ⟨fun h0 => (by rw [hr2] at h0; cases h0), fun j hj => ?_⟩
  rw [hr2] at hj
  obtain rfl : j = i + 1 := by simpa using hj
  unfold wpOp
  simp only [hk4, Region.wanted, hg4, if_true]
  left
  refine wp_store_blk ty (.tmp d2) y2 ho4 q vs2 hx2 hy2 ty zs (hb2.grown hg (by simpa using hpq)) hl2 hi2 h2 fun w4 hb4 hg4 => ?_
  rw [hn4]
  exact ⟨hr3, h w4 (hb3.grown hg4 (by simpa using fun e => hpq e.symm)) hb4 (ext_grown (ext_grown he hg hp) hg4 hq)⟩

/-- Two variables are made, in whatever order, and a whole array stored into each: the region's end. -/
theorem end_var2 {k : Nat} {o1 o2 o3 o4 : Oper} {listed : Array Bool} {a : Act} {w : World} (ty : TypeId) (d1 d2 : Nat) (y1 y2 : Operand) (zs vs1 vs2 : List Value)
    (hk1 : ops[k]? = some o1) (hk2 : ops[k + 1]? = some o2) (hk3 : ops[k + 2]? = some o3) (hk4 : ops[k + 2 + 1]? = some o4)
    (hr : Region.ready md ops listed = [k, k + 1]) (hr1 : Region.ready md ops (listed.setIfInBounds k true) = [k + 1]) (hr2 : Region.ready md ops (listed.setIfInBounds (k + 1) true) = [k])
    (hr3 : Region.ready md ops ((listed.setIfInBounds k true).setIfInBounds (k + 1) true) = [k + 2]) (hr4 : Region.ready md ops (((listed.setIfInBounds k true).setIfInBounds (k + 1) true).setIfInBounds (k + 2) true) = [k + 2 + 1])
    (hr5 : Region.ready md ops ((((listed.setIfInBounds k true).setIfInBounds (k + 1) true).setIfInBounds (k + 2) true).setIfInBounds (k + 2 + 1) true) = [])
    (hd : doneB t listed = false) (hd1 : doneB t (listed.setIfInBounds k true) = false) (hd2 : doneB t (listed.setIfInBounds (k + 1) true) = false) (hd3 : doneB t ((listed.setIfInBounds k true).setIfInBounds (k + 1) true) = true)
    (hg1 : o1.guard = none) (hg2 : o2.guard = none) (hg3 : o3.guard = none) (hg4 : o4.guard = none) (ho1 : o1.op = .alloc ty) (ho2 : o2.op = .alloc ty) (hd1' : o1.dst = some d1) (hd2' : o2.dst = some d2) (hdd : d1 ≠ d2)
    (hz : ∀ w, (zeroValue ty).run P w = .ok (.agg zs.toArray) w) (ho3 : o3.op = .store ty (.tmp d1) y1) (ho4 : o4.op = .store ty (.tmp d2) y2) (hn3 : o3.dst = none) (hn4 : o4.dst = none) (hs1 : d1 < a.tmps.size) (hs2 : d2 < a.tmps.size)
    (hy1 : ∀ p q, ((a.put (some d1) (.pointer (some ⟨p, 0, none⟩))).put (some d2) (.pointer (some ⟨q, 0, none⟩))).eval y1 = .agg vs1.toArray)
    (hy2 : ∀ p q, ((a.put (some d1) (.pointer (some ⟨p, 0, none⟩))).put (some d2) (.pointer (some ⟨q, 0, none⟩))).eval y2 = .agg vs2.toArray)
    (hl1 : vs1.length = zs.length) (hl2 : vs2.length = zs.length) (hi1 : (P.info? ty).map (·.size) = some vs1.length) (hi2 : (P.info? ty).map (·.size) = some vs2.length) (h1 : ∀ v ∈ vs1, v.oneCell' = true) (h2 : ∀ v ∈ vs2, v.oneCell' = true)
    (h : ∀ p q w', p ≠ q → w.heap.size ≤ p → w.heap.size ≤ q → Blk w' p vs1 ty → Blk w' q vs2 ty → Ext w w' → Q .normal ((a.put (some d1) (.pointer (some ⟨p, 0, none⟩))).put (some d2) (.pointer (some ⟨q, 0, none⟩))) w') :
    wpAnyB P md ops Q t 4 listed a w.drew := by
  have tail : ∀ p q w', Blk w' p zs ty → Blk w' q zs ty → p ≠ q → w.heap.size ≤ p → w.heap.size ≤ q → Ext w w' →
      wpAny P md ops Q 2 ((listed.setIfInBounds k true).setIfInBounds (k + 1) true) ((a.put (some d1) (.pointer (some ⟨p, 0, none⟩))).put (some d2) (.pointer (some ⟨q, 0, none⟩))) w' := by
    intro p q w' b1 b2 hpq hp hq he
    refine two_stores ty d1 d2 p q y1 y2 zs vs1 vs2 hk3 hk4 hr3 hr4 hr5 hg3 hg4 ho3 ho4 hn3 hn4 ?_ ?_ (hy1 p q) (hy2 p q) hpq b1 b2 hl1 hl2 hi1 hi2 h1 h2 he hp hq (fun w4 b3 b4 e4 => h p q w4 hpq hp hq b3 b4 e4)
    · simp [Act.eval, Act.put, hs1, Ne.symm hdd]
    · simp [Act.eval, Act.put, hs2]
  refine ⟨fun h0 => (by rw [hd] at h0; cases h0), fun _ w1 hw1 => ⟨by rw [hr]; simp, fun i hi => ?_⟩⟩
  rw [hr] at hi
  have he1 : Ext w w1 := (Ext.drew w).trans hw1
  simp only [List.mem_cons, List.not_mem_nil, or_false] at hi
  rcases hi with rfl | rfl
  · unfold wpOp
    simp only [hk1, Region.wanted, hg1, if_true]
    left
    unfold Oper.wp
    rw [run_alloc_zero ho1 hz]
    simp only [Oper.upon, hd1']
    refine ⟨Ext.alloc _ _, fun h0 => (by rw [hd1] at h0; cases h0), fun _ w2 hw2 => ⟨by rw [hr1]; simp, fun j hj => ?_⟩⟩
    rw [hr1] at hj
    obtain rfl : j = i + 1 := by simpa using hj
    have hb1 : Blk w2 w1.heap.size zs ty := ext_blk (Blk.made w1 zs ty) hw2
    unfold wpOp
    simp only [hk2, Region.wanted, hg2, if_true]
    left
    unfold Oper.wp
    rw [run_alloc_zero ho2 hz]
    simp only [Oper.upon, hd2']
    refine ⟨Ext.alloc _ _, fun _ w3 hw3 => ?_, fun h0 => (by rw [hd3] at h0; cases h0)⟩
    refine tail _ _ w3 (ext_blk (ext_blk hb1 (Ext.alloc w2 _)) hw3) (ext_blk (Blk.made w2 zs ty) hw3) (by have := hb1.lt; omega) he1.size (Nat.le_trans he1.size (Nat.le_of_lt hb1.lt)) (((he1.trans (Ext.alloc _ _)).trans hw2).trans ((Ext.alloc _ _).trans hw3))
  · unfold wpOp
    simp only [hk2, Region.wanted, hg2, if_true]
    left
    unfold Oper.wp
    rw [run_alloc_zero ho2 hz]
    simp only [Oper.upon, hd2']
    refine ⟨Ext.alloc _ _, fun h0 => (by rw [hd2] at h0; cases h0), fun _ w2 hw2 => ⟨by rw [hr2]; simp, fun j hj => ?_⟩⟩
    rw [hr2] at hj
    obtain rfl : j = k := by simpa using hj
    have hb1 : Blk w2 w1.heap.size zs ty := ext_blk (Blk.made w1 zs ty) hw2
    unfold wpOp
    simp only [hk1, Region.wanted, hg1, if_true]
    left
    unfold Oper.wp
    rw [run_alloc_zero ho1 hz]
    simp only [Oper.upon, hd1']
    rw [Array.setIfInBounds_comm _ _ (by omega : j + 1 ≠ j), Act.put_comm a _ _ (by simpa using fun e => hdd e)]
    refine ⟨Ext.alloc _ _, fun _ w3 hw3 => ?_, fun h0 => (by rw [hd3] at h0; cases h0)⟩
    refine tail _ _ w3 (ext_blk (Blk.made w2 zs ty) hw3) (ext_blk (ext_blk hb1 (Ext.alloc w2 _)) hw3) (by have := hb1.lt; omega) (Nat.le_trans he1.size (Nat.le_of_lt hb1.lt)) he1.size (((he1.trans (Ext.alloc _ _)).trans hw2).trans ((Ext.alloc _ _).trans hw3))

/-- A whole array is stored into what stands, and a value assigned: the region's end. -/
theorem end_set_assign {k : Nat} {o o2 : Oper} {listed : Array Bool} {a : Act} {w : World} (ty tb : TypeId) (x y z : Operand) (d : Nat) (u : Value) (c : Nat) (vs cs : List Value) (hk : ops[k]? = some o) (hk2 : ops[k + 1]? = some o2) (hr : Region.ready md ops listed = [k]) (hr2 : Region.ready md ops (listed.setIfInBounds k true) = [k + 1])
    (hr3 : Region.ready md ops ((listed.setIfInBounds k true).setIfInBounds (k + 1) true) = []) (hd : doneB t listed = true) (hg : o.guard = none) (hg2 : o2.guard = none) (hn : o.dst = none)
    (ho : o.op = .store ty x y) (hx : a.eval x = .pointer (some ⟨c, 0, none⟩)) (hy : a.eval y = .agg vs.toArray) (hb : Blk w c cs tb) (hl : vs.length = cs.length) (hi : (P.info? ty).map (·.size) = some vs.length) (h1 : ∀ v ∈ vs, v.oneCell' = true)
    (ho2 : o2.op = .assign z) (hd2 : o2.dst = some d) (hz : a.eval z = u) (h : ∀ w', Blk w' c vs tb → w.grownBy w' (some c) → Q .normal (a.put (some d) u) w') : wpAnyB P md ops Q t 2 listed a w.drew := by
  refine ⟨fun _ w' hw' => ⟨fun h0 => (by rw [hr] at h0; cases h0), fun i hi' => ?_⟩, fun h0 => (by rw [hd] at h0; cases h0)⟩
  rw [hr] at hi'
  obtain rfl : i = k := by simpa using hi'
  have he : Ext w w' := (Ext.drew w).trans hw'
  unfold wpOp
  simp only [hk, Region.wanted, hg, if_true]
  left
  refine wp_store_blk ty x y ho c vs hx hy tb cs (ext_blk hb he) hl hi h1 fun w2 hb2 hg2' => ?_
  rw [hn]
  refine ⟨fun h0 => (by rw [hr2] at h0; cases h0), fun j hj => ?_⟩
  rw [hr2] at hj
  obtain rfl : j = i + 1 := by simpa using hj
  unfold wpOp
  simp only [hk2, Region.wanted, hg2, if_true]
  left
  unfold Oper.wp execOp
  have hz' : (Act.put a none undef).eval z = u := hz
  simp only [ho2, hz', Sem.run_pure, Oper.upon, hd2]
  exact ⟨hr3, h w2 hb2 (grownBy_trans (grown_of_below he _) hg2')⟩
end

end Go.Proofs.YtcadfccijeodbaaDoor

/- The last operations of a drawn region, one behind the other: each the only one that may come. Nothing here speaks of a program. Each theorem names its own conditions. -/
namespace Go.Proofs.YtcadfccijeodbaaDoor
open Go.RowKit
set_option linter.unusedVariables false

section
variable {P : Program} {ops : Array Oper} {Q : Exit → Act → World → Prop} {md : Region.Mode} {t : Nat}
/-- The first part is done: what is left, in whatever world has come of it. -/
theorem end_free {m : Nat} {listed : Array Bool} {a : Act} {w : World} (hd : doneB t listed = true) (h0 : Region.ready md ops listed ≠ []) (h : ∀ w', Ext w w' → wpAny P md ops Q (m + 1) listed a w') : wpAnyB P md ops Q t (m + 1) listed a w.drew :=
  ⟨fun _ w' hw' => h w' ((Ext.drew w).trans hw'), fun h' => by rw [hd] at h'; cases h'⟩
theorem anyB_done {m : Nat} {listed : Array Bool} {a : Act} {w : World} (hd : doneB t listed = true) (h : ∀ w', Ext w w' → wpAny P md ops Q (m + 1) listed a w') : wpAnyB P md ops Q t (m + 1) listed a w :=
  ⟨fun _ w' hw' => h w' hw', fun h' => by rw [hd] at h'; cases h'⟩
/-- One operation of the first part is owed, which leaves old memory alone. -/
theorem end_step {m k : Nat} {o : Oper} {listed : Array Bool} {a : Act} {w : World} (hk : ops[k]? = some o) (hr : Region.ready md ops listed = [k]) (hd : doneB t listed = false) (hg : o.guard = none)
    (h : ∀ w', Ext w w' → o.wp P a w' (fun a' w'' => Ext w' w'' ∧ wpAnyB P md ops Q t m (listed.setIfInBounds k true) a' w'') Q) : wpAnyB P md ops Q t (m + 1) listed a w.drew := by
  refine ⟨fun h0 => (by rw [hd] at h0; cases h0), fun _ w' hw' => ⟨by rw [hr]; simp, fun i hi => ?_⟩⟩
  rw [hr] at hi
  obtain rfl : i = k := by simpa using hi
  unfold wpOp
  simp only [hk, Region.wanted, hg, if_true]
  exact Or.inl (h w' ((Ext.drew w).trans hw'))
/-- One operation alone may come. -/
theorem any_one {m k : Nat} {o : Oper} {listed : Array Bool} {a : Act} {w : World} (hk : ops[k]? = some o) (hr : Region.ready md ops listed = [k]) (hg : o.guard = none)
    (h : o.wp P a w (fun a' w'' => wpAny P md ops Q m (listed.setIfInBounds k true) a' w'') Q) : wpAny P md ops Q (m + 1) listed a w := by
  refine ⟨fun h0 => (by rw [hr] at h0; cases h0), fun i hi => ?_⟩
  rw [hr] at hi
  obtain rfl : i = k := by simpa using hi
  unfold wpOp
  simp only [hk, Region.wanted, hg, if_true]
  exact Or.inl h
theorem any_nil {listed : Array Bool} {a : Act} {w : World} (hr : Region.ready md ops listed = []) (h : Q .normal a w) : wpAny P md ops Q 0 listed a w := ⟨hr, h⟩
theorem wp_assign {o : Oper} {a : Act} {w : World} {K : Act → World → Prop} (x : Operand) (v : Value) (ho : o.op = .assign x) (hx : a.eval x = v) (h : K (a.put o.dst v) w) : o.wp P a w K Q := by
  unfold Oper.wp execOp
  simp only [ho, hx, Sem.run_pure]
  exact h

/-- The laws, where the temporary is named. -/
theorem wp_assign_d {o : Oper} {a : Act} {w : World} {K : Act → World → Prop} (d : Option Nat) (x : Operand) (v : Value) (hd : o.dst = d) (ho : o.op = .assign x) (hx : a.eval x = v) (h : K (a.put d v) w) : o.wp P a w K Q := by
  subst hd
  exact wp_assign x v ho hx h
theorem wp_buildSlice_d {o : Oper} {a : Act} {w : World} {K : Act → World → Prop} (d : Option Nat) (t e : TypeId) (len : Nat) (parts : Array (Nat × Operand)) (hd : o.dst = d) (ho : o.op = .buildSlice t len parts)
    (cells : Array Value) (ie : TypeInfo) (z : Value)
    (hu : P.underlying t = some (.slice e)) (hie : P.info? e = some ie) (hz : ie.zero = some z) (hsmall : ¬ len * ie.size > 2 ^ 24) (hpos : ¬ len * ie.size = 0)
    (hf : Instr.fill (fun i => some (i * ie.size, ie.size)) ((Array.range (len * ie.size)).map (z.cells[· % z.cells.size]!)) (parts.map fun (i, x) => (i, a.eval x)).toList = some cells)
    (h : K (a.put d (.slice (some ⟨w.heap.size, 0, none⟩) len len)) (w.alloc (.cells cells e))) : o.wp P a w K Q := by
  subst hd
  exact wp_buildSlice t e len parts ho cells ie z hu hie hz hsmall hpos hf h
theorem wp_append_row_d {o : Oper} {a : Act} {w : World} {v : Value} {vs : List Value} {K : Act → World → Prop} (d : Option Nat) (s y : Operand) (t : TypeId) (hd : o.dst = d)
    (ho : o.op = .call { callee := .builtin .append, args := #[s, y], argTypes := #[t, t] })
    (base : Nat) (e : TypeId) (i : TypeInfo) (z : Value) (bytes : Nat) (ht : P.underlying t = some (.slice e)) (hi : P.info? e = some i) (hz : i.zero = some z)
    (hsize : i.size = 1) (hby : i.bytes = bytes) (hzs : z.cells.size = 1)
    (x : Value) (n : Nat) (xs : List Value) (hs : a.eval s = x) (hown : w.ownsRow base e 1 x n xs)
    (hx : a.eval y = v) (hv : Row1 w v vs) (h1 : ∀ u ∈ vs, u.oneCell' = true)
    (h63 : n + vs.length ≤ maxLen) (hbytes : (n + vs.length) * bytes ≤ 140737488355328) (hbase : base ≤ w.heap.size)
    (h : ∀ x' w', w'.ownsRow base e 1 x' (n + vs.length) (xs ++ vs) → w.grownBy w' x.ownBlock → K (a.put d x') w') : o.wp P a w K Q := by
  subst hd
  exact wp_append_row s y t ho base e i z bytes ht hi hz hsize hby hzs x n xs hs hown hx hv h1 h63 hbytes hbase h
/-- A value's element. -/
theorem det_vindex {C : World → Prop} {D : Act → Prop} {o : Oper} {rest : List Oper} {a : Act} (ty : TypeId) (x y : Operand) (vx vy v : Value) (hw : Region.wanted o (yielded ops a.tmps) = true) (ho : o.op = .index ty x y) (hx : a.eval x = vx) (hy : a.eval y = vy)
    (h : ∀ w, (Instr.index ty vx vy).run P w = .ok v w) (next : wpDet P ops C D rest (a.put o.dst v)) : wpDet P ops C D (o :: rest) a :=
  det_val _ hw (fun w _ => by
    unfold execOp
    simp only [ho, hx, hy, Sem.run_bind, h, Result.andThen_ok, Sem.run_pure]) next
/-- The address of a slice's element. -/
theorem det_sindex {C : World → Prop} {D : Act → Prop} {o : Oper} {rest : List Oper} {a : Act} (ty e : TypeId) (x y : Operand) (c off len cap j : Nat) (hw : Region.wanted o (yielded ops a.tmps) = true) (ho : o.op = .indexAddr ty x y) (hx : a.eval x = .slice (some ⟨c, off, none⟩) len cap) (hy : a.eval y = .int .i64 (j : Int))
    (hu : P.underlying ty = some (.slice e)) (hj : j < len) (hs : ∀ w, (sizeOf e).run P w = .ok 1 w)
    (next : wpDet P ops C D rest (a.put o.dst (.pointer (some ⟨c, off + j, none⟩)))) : wpDet P ops C D (o :: rest) a :=
  det_val _ hw (fun w _ => by
    have h1 : (0 : Int) ≤ (j : Int) ∧ (j : Int) < (len : Int) := by omega
    unfold execOp
    simp [ho, hx, hy, Instr.indexAt, asIntOf, run_underlying hu, Instr.sureAddr, h1, hs, WideShapes.add_plain, hj]) next
end

end Go.Proofs.YtcadfccijeodbaaDoor

/- What may be taken first in a drawn region in which calls and new memory stand in a chain. Nothing here speaks of a program. Each theorem names its own conditions. -/
namespace Go.Proofs.YtcadfccijeodbaaDoor
open Go.RowKit
set_option linter.unusedVariables false

section
variable {P : Program} {ops : Array Oper} {S : World → Prop}
theorem yi_val {o : Oper} {a : Act} (v : Value) (hw : Region.wanted o (yielded ops a.tmps) = true) (h : ∀ w, S w → (execOp a.eval o).run P w = .ok (.value v) w) : YieldsIf P ops S o v a := Or.inl ⟨hw, h⟩
theorem yi_skip {o : Oper} {a : Act} (hw : Region.wanted o (yielded ops a.tmps) = false) : YieldsIf P ops S o undef a := Or.inr ⟨hw, rfl⟩
theorem yi_move {o : Oper} {a : Act} (x : Operand) (v : Value) (hw : Region.wanted o (yielded ops a.tmps) = true) (ho : o.op = .move x) (hx : a.eval x = v) : YieldsIf P ops S o v a :=
  yi_val v hw (fun w _ => by unfold execOp; simp only [ho, hx, Sem.run_pure])
theorem yi_assign {o : Oper} {a : Act} (x : Operand) (v : Value) (hw : Region.wanted o (yielded ops a.tmps) = true) (ho : o.op = .assign x) (hx : a.eval x = v) : YieldsIf P ops S o v a :=
  yi_val v hw (fun w _ => by unfold execOp; simp only [ho, hx, Sem.run_pure])
theorem yi_pick {o : Oper} {a : Act} (c x y : Operand) (b : Bool) (v : Value) (hw : Region.wanted o (yielded ops a.tmps) = true) (ho : o.op = .pick c x y) (hc : a.eval c = .bool b) (hx : (if b then a.eval x else a.eval y) = v) : YieldsIf P ops S o v a :=
  yi_val v hw (fun w _ => by
    unfold execOp
    cases b <;> simp only [ho, hc, Bool.false_eq_true, if_false, if_true] at hx ⊢ <;> simp [asBool, hx])
theorem yi_eql {o : Oper} {a : Act} (ty rt e : TypeId) (x y : Operand) (n : Nat) (i : TypeInfo) (xs ys : List UInt8) (r : Bool) (hw : Region.wanted o (yielded ops a.tmps) = true) (ho : o.op = .binOp .eql ty x y rt) (hb : decide (xs = ys) = r)
    (hu : P.underlying ty = some (.array n e)) (he : P.underlying e = some (.int .u8)) (hi : P.info? e = some i) (hc : P.cellsOf e = 1) (hg : P.eqGuardType P.depth ty = false)
    (hx : a.eval x = .agg (xs.map bval).toArray) (hy : a.eval y = .agg (ys.map bval).toArray) (lx : xs.length = n) (ly : ys.length = n) : YieldsIf P ops S o (.bool r) a :=
  yi_val _ hw (fun w _ => by
    have h1 := run_equal_bytes hu he hi hc xs ys lx ly w
    rw [hb] at h1
    unfold execOp
    simp [ho, hx, hy, eqGuard, hg, binOp, h1])
/-- A slice, whose run is known. -/
theorem yi_slice {o : Oper} {a : Act} (t : TypeId) (x : Operand) (lo hi : Option Operand) (vx v : Value) (vlo vhi : Option Value) (hw : Region.wanted o (yielded ops a.tmps) = true) (ho : o.op = .slice t x lo hi none) (hx : a.eval x = vx) (hlo : lo.map a.eval = vlo) (hhi : hi.map a.eval = vhi)
    (h : ∀ w, (Instr.sliceAt t vx vlo vhi none).run P w = .ok v w) : YieldsIf P ops S o v a :=
  yi_val v hw (fun w _ => by
    unfold execOp
    simp only [ho, hx, hlo, hhi, Option.map_none, Sem.run_bind, h, Result.andThen_ok, Sem.run_pure])
theorem step_wp {o : Oper} {a : Act} {w : World} {K : Act → World → Prop} {Q : Exit → Act → World → Prop} {E : Prop} (hw : Region.wanted o (yielded ops a.tmps) = true) (h : Oper.wp P o a w K Q) : if Region.wanted o (yielded ops a.tmps) = true then Oper.wp P o a w K Q else E := by
  rw [if_pos hw]
  exact h
end

end Go.Proofs.YtcadfccijeodbaaDoor

/- Further operations that may be taken first in a drawn region in which calls and new memory stand in a chain: lengths, texts of bytes, comparisons, not. Nothing here speaks of a program. Each theorem names its own conditions. -/
namespace Go.Proofs.YtcadfccijeodbaaDoor
open Go.RowKit
set_option linter.unusedVariables false
set_option linter.unusedSimpArgs false

section
variable {P : Program} {ops : Array Oper} {S : World → Prop}
theorem yi_len {o : Oper} {a : Act} (x : Operand) (t e : TypeId) (ad : Option Addr) (n c : Nat) (ht : P.underlying t = some (.slice e)) (hw : Region.wanted o (yielded ops a.tmps) = true) (ho : o.op = .call { callee := .builtin .len, args := #[x], argTypes := #[t] }) (hx : a.eval x = .slice ad n c) : YieldsIf P ops S o (.int .i64 (n : Int)) a :=
  yi_val _ hw (fun w _ => by
    unfold execOp
    simp [ho, resolve, invoke, builtin, hx, Builtin.len_, run_underlying ht, goInt, Result.andThen])
theorem yi_not {o : Oper} {a : Act} (ty : TypeId) (x : Operand) (b : Bool) (hw : Region.wanted o (yielded ops a.tmps) = true) (ho : o.op = .unOp .not ty x) (hx : a.eval x = .bool b) : YieldsIf P ops S o (.bool !b) a :=
  yi_val _ hw (fun w _ => by
    unfold execOp
    simp [ho, hx, Op.unary, Result.andThen])
theorem yi_eqb {o : Oper} {a : Act} (ty rt : TypeId) (x y : Operand) (b c r : Bool) (hr : (b == c) = r) (hu : P.underlying ty = some .bool) (hw : Region.wanted o (yielded ops a.tmps) = true) (ho : o.op = .binOp .eql ty x y rt) (hx : a.eval x = .bool b) (hy : a.eval y = .bool c) : YieldsIf P ops S o (.bool r) a :=
  yi_val _ hw (fun w _ => by
    unfold execOp
    simp only [ho, hx, hy]
    simp [eqGuard, binOp, run_equal_bools hu, hr])
/-- A text of bytes, whose run is known. -/
theorem yi_conv {o : Oper} {a : Act} (s t : TypeId) (x : Operand) (vx v : Value) (hw : Region.wanted o (yielded ops a.tmps) = true) (ho : o.op = .convert s t x) (hx : a.eval x = vx) (h : ∀ w, S w → (convert s t vx).run P w = .ok v w) : YieldsIf P ops S o v a :=
  yi_val v hw (fun w hS => by
    unfold execOp
    simp only [ho, hx, Sem.run_bind, h w hS, Result.andThen_ok, Sem.run_pure])
theorem yi_eqi {o : Oper} {a : Act} (k : IntKind) (ty rt : TypeId) (x y : Operand) (b c : Int) (r : Bool) (hr : decide (b = c) = r) (hw : Region.wanted o (yielded ops a.tmps) = true) (ho : o.op = .binOp .eql ty x y rt) (hx : a.eval x = .int k b) (hy : a.eval y = .int k c) : YieldsIf P ops S o (.bool r) a :=
  yi_val _ hw (fun w _ => by
    subst hr
    unfold execOp
    simp only [ho, hx, hy]
    simp [eqGuard, binOp, Op.intCmp, Result.andThen]
    try rw [Bool.eq_iff_iff]; simp)
theorem yi_eqt {o : Oper} {a : Act} (ty rt : TypeId) (x y : Operand) (b c : List UInt8) (r : Bool) (hr : decide (b = c) = r) (hw : Region.wanted o (yielded ops a.tmps) = true) (ho : o.op = .binOp .eql ty x y rt) (hx : a.eval x = .string ⟨b.toArray⟩) (hy : a.eval y = .string ⟨c.toArray⟩) : YieldsIf P ops S o (.bool r) a :=
  yi_val _ hw (fun w _ => by
    subst hr
    unfold execOp
    simp only [ho, hx, hy]
    simp [eqGuard, binOp, Op.stringOp, Result.andThen]
    try rw [Bool.eq_iff_iff]; simp)
theorem yi_and {o : Oper} {a : Act} (k : IntKind) (ty rt : TypeId) (x y : Operand) (m n r : Int) (hr : bits .and k m n = r) (hw : Region.wanted o (yielded ops a.tmps) = true) (ho : o.op = .binOp .and ty x y rt) (hx : a.eval x = .int k m) (hy : a.eval y = .int k n) : YieldsIf P ops S o (.int k r) a :=
  yi_val _ hw (fun w _ => by rw [← hr]; unfold execOp bits; simp [ho, hx, hy, eqGuard, binOp, Op.intBits])
theorem yi_iconv {o : Oper} {a : Act} (src dst : TypeId) (x : Operand) (k k' : IntKind) (n r : Int) (hs : (P.underlying src).isSome = true) (hd : P.underlying dst = some (.int k')) (hr : k'.wrap n = r) (hw : Region.wanted o (yielded ops a.tmps) = true) (ho : o.op = .convert src dst x) (hx : a.eval x = .int k n) : YieldsIf P ops S o (.int k' r) a :=
  yi_val _ hw (fun w _ => by
    obtain ⟨u, hu⟩ := Option.isSome_iff_exists.1 hs
    have h : (convert src dst (.int k n)).run P w = .ok (.int k' r) w := by
      simp [convert, run_underlying hu, run_underlying hd, Conv.intToInt, hr]
    unfold execOp
    simp only [ho, hx, Sem.run_bind, h, Result.andThen_ok, Sem.run_pure])
theorem wp_alloc_d {o : Oper} {a : Act} {w : World} {K : Act → World → Prop} {Q : Exit → Act → World → Prop} (d : Option Nat) (ty : TypeId) (zs : List Value) (hd : o.dst = d) (ho : o.op = .alloc ty) (hz : ∀ w, (zeroValue ty).run P w = .ok (.agg zs.toArray) w)
    (h : K (a.put d (.pointer (some ⟨w.heap.size, 0, none⟩))) (w.alloc (.cells zs.toArray ty))) : o.wp P a w K Q := by
  subst hd
  unfold Oper.wp
  rw [run_alloc_zero ho hz]
  exact h
theorem wp_conv_d {o : Oper} {a : Act} {w : World} {K : Act → World → Prop} {Q : Exit → Act → World → Prop} (d : Option Nat) (s t : TypeId) (x : Operand) (vx v : Value) (w' : World) (hd : o.dst = d) (ho : o.op = .convert s t x) (hx : a.eval x = vx) (hr : (convert s t vx).run P w = .ok v w')
    (h : K (a.put d v) w') : o.wp P a w K Q := by
  subst hd
  unfold Oper.wp execOp
  simp only [ho, hx, Sem.run_bind, hr, Result.andThen_ok, Sem.run_pure]
  exact h
theorem yi_neqB {o : Oper} {a : Act} (ty rt e : TypeId) (x y : Operand) (n : Nat) (i : TypeInfo) (xs ys : List UInt8) (r : Bool) (hw : Region.wanted o (yielded ops a.tmps) = true) (ho : o.op = .binOp .neq ty x y rt) (hb : decide (xs = ys) = !r)
    (hu : P.underlying ty = some (.array n e)) (he : P.underlying e = some (.int .u8)) (hi : P.info? e = some i) (hc : P.cellsOf e = 1) (hg : P.eqGuardType P.depth ty = false)
    (hx : a.eval x = .agg (xs.map bval).toArray) (hy : a.eval y = .agg (ys.map bval).toArray) (lx : xs.length = n) (ly : ys.length = n) : YieldsIf P ops S o (.bool r) a :=
  yi_val _ hw (fun w _ => by
    have h1 := run_equal_bytes hu he hi hc xs ys lx ly w
    rw [hb] at h1
    unfold execOp
    simp [ho, hx, hy, eqGuard, hg, binOp, h1])
theorem yi_build {o : Oper} {a : Act} (ty : TypeId) (parts : Array (Nat × Operand)) (vs : Array (Nat × Value)) (v : Value) (hr : ∀ w, (Instr.build ty vs).run P w = .ok v w) (hw : Region.wanted o (yielded ops a.tmps) = true) (ho : o.op = .build ty parts) (hp : parts.map (fun (i, x) => (i, a.eval x)) = vs) : YieldsIf P ops S o v a :=
  yi_val _ hw (fun w _ => by
    subst hp
    unfold execOp
    simp only [ho, Sem.run_bind, hr, Result.andThen_ok, Sem.run_pure])
theorem wp_make_d {o : Oper} {a : Act} {w : World} {K : Act → World → Prop} {Q : Exit → Act → World → Prop} (d : Option Nat) (t : TypeId) (x y : Operand) (vx vy v : Value) (w' : World) (hd : o.dst = d) (ho : o.op = .makeSlice t x y) (hx : a.eval x = vx) (hy : a.eval y = vy) (hr : (Instr.makeSlice t vx vy).run P w = .ok v w')
    (h : K (a.put d v) w') : o.wp P a w K Q := by
  subst hd
  unfold Oper.wp execOp
  simp only [ho, hx, hy, Sem.run_bind, hr, Result.andThen_ok, Sem.run_pure]
  exact h
theorem yi_add {o : Oper} {a : Act} (k : IntKind) (ty rt : TypeId) (x y : Operand) (m n r : Int) (hr : k.wrap (m + n) = r) (hw : Region.wanted o (yielded ops a.tmps) = true) (ho : o.op = .binOp .add ty x y rt) (hx : a.eval x = .int k m) (hy : a.eval y = .int k n) : YieldsIf P ops S o (.int k r) a :=
  yi_val _ hw (fun w _ => by unfold execOp; simp [ho, hx, hy, eqGuard, binOp, Op.intArith, hr])
theorem yi_sub {o : Oper} {a : Act} (k : IntKind) (ty rt : TypeId) (x y : Operand) (m n r : Int) (hr : k.wrap (m - n) = r) (hw : Region.wanted o (yielded ops a.tmps) = true) (ho : o.op = .binOp .sub ty x y rt) (hx : a.eval x = .int k m) (hy : a.eval y = .int k n) : YieldsIf P ops S o (.int k r) a :=
  yi_val _ hw (fun w _ => by unfold execOp; simp [ho, hx, hy, eqGuard, binOp, Op.intArith, hr])
theorem yi_mul {o : Oper} {a : Act} (k : IntKind) (ty rt : TypeId) (x y : Operand) (m n r : Int) (hr : k.wrap (m * n) = r) (hw : Region.wanted o (yielded ops a.tmps) = true) (ho : o.op = .binOp .mul ty x y rt) (hx : a.eval x = .int k m) (hy : a.eval y = .int k n) : YieldsIf P ops S o (.int k r) a :=
  yi_val _ hw (fun w _ => by unfold execOp; simp [ho, hx, hy, eqGuard, binOp, Op.intArith, hr])
theorem yi_net {o : Oper} {a : Act} (ty rt : TypeId) (x y : Operand) (b c : List UInt8) (r : Bool) (hr : decide (b = c) = !r) (hw : Region.wanted o (yielded ops a.tmps) = true) (ho : o.op = .binOp .neq ty x y rt) (hx : a.eval x = .string ⟨b.toArray⟩) (hy : a.eval y = .string ⟨c.toArray⟩) : YieldsIf P ops S o (.bool r) a :=
  yi_val _ hw (fun w _ => by
    have hr2 : r = !decide (b = c) := by rw [hr, Bool.not_not]
    subst hr2
    unfold execOp
    simp only [ho, hx, hy]
    simp [eqGuard, binOp, Op.stringOp, Result.andThen]
    try rw [Bool.eq_iff_iff]; simp)
end

end Go.Proofs.YtcadfccijeodbaaDoor

/- A struct of four arrays of sixteen integers: its fields' addresses, its parts, how it is built. Nothing here speaks of a program. Each theorem names its own conditions. -/
namespace Go.Proofs.YtcadfccijeodbaaDoor
open Go.RowKit
set_option linter.unusedVariables false
set_option linter.unusedSimpArgs false

theorem fold_lay (off : Nat) (post : List Value) : ∀ (new mid pre : List Value) (k : Nat), new.length = mid.length → pre.length = off + k →
    (new.zipIdx k).foldl (fun (cs : Array Value) (x : Value × Nat) => cs.setIfInBounds (off + x.2) x.1) (pre ++ (mid ++ post)).toArray = (pre ++ (new ++ post)).toArray
  | [], mid, pre, k, h, hp => by
    obtain rfl : mid = [] := List.eq_nil_of_length_eq_zero (by simpa using h.symm)
    rfl
  | c :: new, [], pre, k, h, hp => by simp at h
  | c :: new, m :: mid, pre, k, h, hp => by
    rw [List.zipIdx_cons, List.foldl_cons]
    have e : (pre ++ (m :: mid ++ post)).toArray.setIfInBounds (off + k) c = ((pre ++ [c]) ++ (mid ++ post)).toArray := by
      rw [List.setIfInBounds_toArray, ← hp, List.set_append_right _ _ (Nat.le_refl _), Nat.sub_self]
      simp
    show (new.zipIdx (k + 1)).foldl _ ((pre ++ (m :: mid ++ post)).toArray.setIfInBounds (off + k) c) = _
    rw [e, fold_lay off post new mid (pre ++ [c]) (k + 1) (by simpa using h) (by simp [hp]; omega)]
    simp
theorem fill_lay {place : Nat → Option (Nat × Nat)} {i off n : Nat} {pre mid post new : List Value} {rest : List (Nat × Value)} (hp : place i = some (off, n)) (hl : pre.length = off) (hm : mid.length = n) (hn : new.length = n) :
    Instr.fill place (pre ++ (mid ++ post)).toArray ((i, .agg new.toArray) :: rest) = Instr.fill place (pre ++ (new ++ post)).toArray rest := by
  have e : (new.toArray.zipIdx.foldl (fun (cs : Array Value) (x : Value × Nat) => cs.setIfInBounds (off + x.2) x.1) (pre ++ (mid ++ post)).toArray) = (pre ++ (new ++ post)).toArray := by
    rw [← fold_lay off post new mid pre 0 (by rw [hn, hm]) (by rw [hl]; rfl), ← Array.foldl_toList, Array.toList_zipIdx]
  rw [Instr.fill, hp]
  have h1 : (Value.cells (.agg new.toArray)).size = n := by simpa [Value.cells] using hn
  have h2 : ¬ (off + n > (pre ++ (mid ++ post)).toArray.size) := by simp [hl, hm]
  simp only [h1]
  rw [if_neg (by simp [h2]; simp at h2; omega)]
  exact congrArg (fun z => Instr.fill place z rest) e
/-- Four parts of sixteen, over noughts. -/
theorem fill_four {place : Nat → Option (Nat × Nat)} (p0 : place 0 = some (0, 16)) (p1 : place 1 = some (16, 16)) (p2 : place 2 = some (32, 16)) (p3 : place 3 = some (48, 16)) (zero : Array Value) (hz : zero.size = 64) {a b c d : List Value} (ha : a.length = 16) (hb : b.length = 16) (hc : c.length = 16) (hd : d.length = 16) :
    Instr.fill place zero [(0, .agg a.toArray), (1, .agg b.toArray), (2, .agg c.toArray), (3, .agg d.toArray)] = some (a ++ (b ++ (c ++ d))).toArray := by
  obtain ⟨l, hl⟩ : ∃ l : List Value, zero = l.toArray ∧ l.length = 64 := ⟨zero.toList, by simp, by simpa using hz⟩
  obtain ⟨rfl, hl⟩ := hl
  have e0 : l = [] ++ (l.take 16 ++ ((l.drop 16).take 16 ++ ((l.drop 32).take 16 ++ l.drop 48))) := by
    rw [List.nil_append]
    have h3 : (l.drop 32).take 16 ++ l.drop 48 = l.drop 32 := by rw [show l.drop 48 = (l.drop 32).drop 16 by rw [List.drop_drop], List.take_append_drop]
    have h2 : (l.drop 16).take 16 ++ l.drop 32 = l.drop 16 := by rw [show l.drop 32 = (l.drop 16).drop 16 by rw [List.drop_drop], List.take_append_drop]
    rw [h3, h2, List.take_append_drop]
  have l0 : (l.take 16).length = 16 := by simp [hl]
  have l1 : ((l.drop 16).take 16).length = 16 := by simp [hl]
  have l2 : ((l.drop 32).take 16).length = 16 := by simp [hl]
  have l3 : (l.drop 48).length = 16 := by simp [hl]
  generalize l.take 16 = q0 at *
  generalize (l.drop 16).take 16 = q1 at *
  generalize (l.drop 32).take 16 = q2 at *
  generalize l.drop 48 = q3 at *
  rw [e0, fill_lay (off := 0) (n := 16) p0 rfl l0 ha]
  rw [show ([] : List Value) ++ (a ++ (q1 ++ (q2 ++ q3))) = a ++ (q1 ++ (q2 ++ q3)) from rfl, fill_lay (off := 16) (n := 16) p1 ha l1 hb]
  rw [show a ++ (b ++ (q2 ++ q3)) = (a ++ b) ++ (q2 ++ q3) by simp, fill_lay (off := 32) (n := 16) p2 (by simp [ha, hb]) l2 hc]
  rw [show (a ++ b) ++ (c ++ q3) = (a ++ b ++ c) ++ (q3 ++ []) by simp, fill_lay (off := 48) (n := 16) p3 (by simp [ha, hb, hc]) l3 hd]
  rw [Instr.fill]
  simp
theorem rng_mid {w : World} {c : Nat} {t : TypeId} {pre mid post : List Value} (h : Blk w c (pre ++ (mid ++ post)) t) {o : Nat} (ho : pre.length = o) : w.rangeAt c o mid := fun j v hj => by
  subst ho
  have hjl : j < mid.length := by
    rcases Nat.lt_or_ge j mid.length with h' | h'
    · exact h'
    · rw [List.getElem?_eq_none h'] at hj; cases hj
  rw [h.cell, List.getElem?_append_right (by omega), Nat.add_sub_cancel_left, List.getElem?_append_left hjl]
  exact hj
theorem boxes_one (w : World) (ks : List Value) (T : TypeId) : Blk (w.alloc (.cells ks.toArray T)) w.heap.size ks T ∧ Ext w (w.alloc (.cells ks.toArray T)) := ⟨Blk.made w ks T, Ext.alloc w _⟩
/-- A value is built, in a plain region. -/
theorem wpList_build {P : Program} {w : World} {ops : Array Oper} {rest : List Oper} {o : Oper} {a : Act} {Q : Exit → Act → World → Prop} (hgd : o.guard = none) (ty : TypeId) (parts : Array (Nat × Operand)) (ho : o.op = .build ty parts)
    (vs : Array (Nat × Value)) (hp : parts.map (fun (i, x) => (i, a.eval x)) = vs) (v : Value) (hr : (Instr.build ty vs).run P w = .ok v w) (h : wpList P ops Q rest (a.put o.dst v) w) : wpList P ops Q (o :: rest) a w :=
  wpList_plain hgd fun _ hK => by
    subst hp
    unfold Oper.wp execOp
    simp only [ho, Sem.run_bind, hr, Result.andThen_ok, Sem.run_pure]
    exact hK _ _ h

end Go.Proofs.YtcadfccijeodbaaDoor

/- In a drawn region's one walk: the load of a part of a block, the address of a part's part, a struct that is built; blocks of two parts. Nothing here speaks of a program. Each theorem names its own conditions. -/
namespace Go.Proofs.YtcadfccijeodbaaDoor
open Go.RowKit
set_option linter.unusedVariables false
set_option linter.unusedSimpArgs false

section
variable {P : Program} {ops : Array Oper} {Q : Exit → Act → World → Prop} {md : Region.Mode} {t : Nat} {C : World → Prop} {D : Act → Prop}
/-- The load of a part of a block. -/
theorem det_loadk {o : Oper} {rest : List Oper} {a : Act} (ty : TypeId) (x : Operand) (c k : Nat) (cs : List Value) (d : TypeDesc) (hw : Region.wanted o (yielded ops a.tmps) = true) (ho : o.op = .load ty x)
    (hx : a.eval x = .pointer (some ⟨c, k, none⟩)) (hC : ∀ w, C w → w.rangeAt c k cs) (hu : P.underlying ty = some d) (hd : d.isRow = true) (hi : (P.info? ty).map (·.size) = some cs.length)
    (next : wpDet P ops C D rest (a.put o.dst (.agg cs.toArray))) : wpDet P ops C D (o :: rest) a := by
  rcases yieldsIf_load_mid (S := C) hw ty x ho c k hx cs d hC hu hd hi with ⟨_, h⟩ | ⟨h, _⟩
  · exact det_val _ hw h next
  · rw [hw] at h; cases h
/-- A part's part. -/
theorem det_fieldk {o : Oper} {rest : List Oper} {a : Act} (ty : TypeId) (x : Operand) (c f i j : Nat) (hw : Region.wanted o (yielded ops a.tmps) = true) (ho : o.op = .fieldAddr ty x f) (hx : a.eval x = .pointer (some ⟨c, i, none⟩))
    (hr : ∀ w, (Instr.fieldAt ty (.pointer (some ⟨c, i, none⟩)) f).run P w = .ok (.pointer (some ⟨c, j, none⟩)) w)
    (next : wpDet P ops C D rest (a.put o.dst (.pointer (some ⟨c, j, none⟩)))) : wpDet P ops C D (o :: rest) a :=
  det_val _ hw (fun w _ => by unfold execOp; simp only [ho, hx, Sem.run_bind, hr, Result.andThen_ok, Sem.run_pure]) next
/-- A value is built. -/
theorem det_build {o : Oper} {rest : List Oper} {a : Act} (ty : TypeId) (parts : Array (Nat × Operand)) (vs : Array (Nat × Value)) (v : Value) (hw : Region.wanted o (yielded ops a.tmps) = true) (ho : o.op = .build ty parts)
    (hp : parts.map (fun (i, x) => (i, a.eval x)) = vs) (hr : ∀ w, (Instr.build ty vs).run P w = .ok v w)
    (next : wpDet P ops C D rest (a.put o.dst v)) : wpDet P ops C D (o :: rest) a :=
  det_val v hw (fun w _ => by
    subst hp
    unfold execOp
    simp only [ho, Sem.run_bind, hr, Result.andThen_ok, Sem.run_pure]) next
theorem det_quo {o : Oper} {rest : List Oper} {a : Act} (ty rt : TypeId) (x y : Operand) (m n : Nat) (hw : Region.wanted o (yielded ops a.tmps) = true) (ho : o.op = .binOp .quo ty x y rt) (hx : a.eval x = .int .i64 (m : Int)) (hy : a.eval y = .int .i64 (n : Int)) (hn : 0 < n) (hm : m < 2 ^ 31)
    (next : wpDet P ops C D rest (a.put o.dst (.int .i64 ((m / n : Nat) : Int)))) : wpDet P ops C D (o :: rest) a :=
  det_val _ hw (fun w _ => by
    have h1 : (n : Int) ≠ 0 := by omega
    have h2 : (m : Int).tdiv n = ((m / n : Nat) : Int) := by rw [Int.tdiv_eq_ediv_of_nonneg (by omega)]; rfl
    have h4 : m / n ≤ m := Nat.div_le_self _ _
    have h3 : IntKind.i64.wrap ((m / n : Nat) : Int) = ((m / n : Nat) : Int) := by
      rw [IntKind.wrap_i64]
      generalize m / n = q at *
      omega
    unfold execOp
    simp only [ho, hx, hy]
    simp [eqGuard, binOp, Op.intDiv, h1, Result.andThen]
    rw [show ((m : Int) / (n : Int)) = ((m / n : Nat) : Int) from rfl, h3, if_neg (show ¬ n = 0 by omega)]) next
theorem det_rem {o : Oper} {rest : List Oper} {a : Act} (ty rt : TypeId) (x y : Operand) (m n : Nat) (hw : Region.wanted o (yielded ops a.tmps) = true) (ho : o.op = .binOp .rem ty x y rt) (hx : a.eval x = .int .i64 (m : Int)) (hy : a.eval y = .int .i64 (n : Int)) (hn : 0 < n) (hm : m < 2 ^ 31)
    (next : wpDet P ops C D rest (a.put o.dst (.int .i64 ((m % n : Nat) : Int)))) : wpDet P ops C D (o :: rest) a :=
  det_val _ hw (fun w _ => by
    have h1 : (n : Int) ≠ 0 := by omega
    unfold execOp
    simp only [ho, hx, hy]
    simp [eqGuard, binOp, Op.intDiv, h1, Result.andThen]
    rw [if_neg (show ¬ n = 0 by omega)]
    simp [Int.tmod_eq_emod_of_nonneg (show (0 : Int) ≤ (m : Int) by omega)]) next
theorem det_shrn {o : Oper} {rest : List Oper} {a : Act} (k : IntKind) (ty rt : TypeId) (x y : Operand) (m n : Nat) (hw : Region.wanted o (yielded ops a.tmps) = true) (ho : o.op = .binOp .shr ty x y rt) (hx : a.eval x = .int k (m : Int)) (hy : a.eval y = .int .i64 (n : Int)) (hn : n ≤ k.bits)
    (next : wpDet P ops C D rest (a.put o.dst (.int k ((m / 2 ^ n : Nat) : Int)))) : wpDet P ops C D (o :: rest) a :=
  det_val _ hw (fun w _ => by
    unfold execOp
    simp only [ho, hx, hy]
    simp [eqGuard, binOp, Op.shift, Result.andThen]
    rw [if_neg (show ¬ (n : Int) < 0 by omega), Nat.min_eq_left hn, Int.fdiv_eq_ediv_of_nonneg _ (by exact_mod_cast Nat.zero_le (2 ^ n))]) next
theorem det_eqi {o : Oper} {rest : List Oper} {a : Act} (k : IntKind) (ty rt : TypeId) (x y : Operand) (b c : Int) (r : Bool) (hw : Region.wanted o (yielded ops a.tmps) = true) (ho : o.op = .binOp .eql ty x y rt) (hx : a.eval x = .int k b) (hy : a.eval y = .int k c) (hr : decide (b = c) = r)
    (next : wpDet P ops C D rest (a.put o.dst (.bool r))) : wpDet P ops C D (o :: rest) a :=
  det_val _ hw (fun w _ => by
    subst hr
    unfold execOp
    simp only [ho, hx, hy]
    simp [eqGuard, binOp, Op.intCmp, Result.andThen]
    try rw [Bool.eq_iff_iff]; simp) next
end

/-- Two parts, over noughts. -/
theorem fill_pair {place : Nat → Option (Nat × Nat)} {m n : Nat} (p0 : place 0 = some (0, m)) (p1 : place 1 = some (m, n)) (zero : Array Value) (hz : zero.size = m + n) {a b : List Value} (ha : a.length = m) (hb : b.length = n) :
    Instr.fill place zero [(0, .agg a.toArray), (1, .agg b.toArray)] = some (a ++ b).toArray := by
  obtain ⟨l, hl⟩ : ∃ l : List Value, zero = l.toArray ∧ l.length = m + n := ⟨zero.toList, by simp, by simpa using hz⟩
  obtain ⟨rfl, hl⟩ := hl
  have e0 : l = [] ++ (l.take m ++ l.drop m) := by simp
  have l0 : (l.take m).length = m := by simp [hl]
  have l1 : (l.drop m).length = n := by simp [hl]
  generalize l.take m = q0 at *
  generalize l.drop m = q1 at *
  rw [e0, fill_lay (off := 0) (n := m) p0 rfl l0 ha]
  rw [show ([] : List Value) ++ (a ++ q1) = a ++ (q1 ++ []) by simp, fill_lay (off := m) (n := n) p1 ha l1 hb]
  rw [Instr.fill]
  simp
/-- The first part alone, over noughts. -/
theorem fill_first {place : Nat → Option (Nat × Nat)} {m : Nat} (p0 : place 0 = some (0, m)) (z0 z1 : List Value) (hz : z0.length = m) {a : List Value} (ha : a.length = m) :
    Instr.fill place (z0 ++ z1).toArray [(0, .agg a.toArray)] = some (a ++ z1).toArray := by
  have e := fill_lay (place := place) (i := 0) (off := 0) (n := m) (pre := []) (mid := z0) (post := z1) (rest := []) p0 rfl hz ha
  rw [List.nil_append, List.nil_append] at e
  rw [e, Instr.fill]
theorem rng_lo {w : World} {c o : Nat} {a b : List Value} (h : w.rangeAt c o (a ++ b)) : w.rangeAt c o a := fun j v hj => by
  have hjl : j < a.length := by
    rcases Nat.lt_or_ge j a.length with h' | h'
    · exact h'
    · rw [List.getElem?_eq_none h'] at hj; cases hj
  exact h j v (by rw [List.getElem?_append_left hjl]; exact hj)
theorem rng_hi {w : World} {c o m k : Nat} {a b : List Value} (h : w.rangeAt c o (a ++ b)) (hm : a.length = m) (hk : o + m = k) : w.rangeAt c k b := fun j v hj => by
  have e := h (m + j) v (by rw [List.getElem?_append_right (by omega), ← hm, Nat.add_sub_cancel_left]; exact hj)
  rw [← Nat.add_assoc, hk] at e
  exact e

end Go.Proofs.YtcadfccijeodbaaDoor

/- A number put into a slice of its own, and behind others. Nothing here speaks of a program. Each theorem names its own conditions. -/
namespace Go.Proofs.YtcadfccijeodbaaDoor
open Go.RowKit
set_option linter.unusedVariables false

theorem ext_ownS {a b d : World} {base size : Nat} {e : TypeId} {n : Nat} {x : Value} {xs : List Value} (h : Ext a b) (ho : b.ownsRow base e size x n xs) (hb : a.heap.size ≤ base) (hg : b.grownBy d x.ownBlock) : Ext a d :=
  Below.grown h hg h.size (fun r hr => by
    obtain ⟨_, h1 | ⟨g, cap, cur, rfl, h2, _⟩⟩ := ho
    · obtain ⟨rfl, _⟩ := h1
      cases hr
    · cases hr
      exact Nat.le_trans hb h2)
theorem info_numz {P : Program} {t : TypeId} {z : Value} {n b : Nat} (h : (P.info? t).map (fun i => (i.zero, i.size, i.bytes)) = some (some z, n, b)) : ∃ i, P.info? t = some i ∧ i.zero = some z ∧ i.size = n ∧ i.bytes = b := by
  cases hp : P.info? t with
  | none => rw [hp] at h; cases h
  | some i =>
    rw [hp] at h
    simp only [Option.map_some, Option.some.injEq, Prod.mk.injEq] at h
    exact ⟨i, rfl, h.1, h.2.1, h.2.2⟩
section
variable {P : Program} {ops : Array Oper} {w : World}
theorem fill_one {z : Value} (hz : z.cells.size = 32) {p : List UInt8} (hp : p.length = 32) :
    Instr.fill (fun i => some (i * 32, 32)) ((Array.range (1 * 32)).map (z.cells[· % z.cells.size]!)) [(0, .agg (p.map bval).toArray)] = some (p.map bval).toArray := by
  obtain ⟨l, hl, hl2⟩ : ∃ l : List Value, ((Array.range (1 * 32)).map (z.cells[· % z.cells.size]!)) = l.toArray ∧ l.length = 32 := ⟨((Array.range (1 * 32)).map (z.cells[· % z.cells.size]!)).toList, by rw [Array.toArray_toList], by simp⟩
  rw [hl]
  have h := fill_first (place := fun i => some (i * 32, 32)) (m := 32) rfl l [] hl2 (a := p.map bval) (by rw [List.length_map, hp])
  rw [List.append_nil, List.append_nil] at h
  exact h
/-- []api.Num of one number. -/
theorem wp_build_num {o : Oper} {a : Act} {K : Act → World → Prop} {Q : Exit → Act → World → Prop} (d : Option Nat) (t q : TypeId) (x : Operand) (p : List UInt8) (hd : o.dst = d) (ho : o.op = .buildSlice t 1 #[(0, x)]) (hu : P.underlying t = some (.slice q))
    {iq : TypeInfo} {z : Value} (hi : P.info? q = some iq) (hz : iq.zero = some z) (hs : iq.size = 32) (hzs : z.cells.size = 32) (hx : a.eval x = .agg (p.map bval).toArray) (hp : p.length = 32)
    (h : K (a.put d (.slice (some ⟨w.heap.size, 0, none⟩) 1 1)) (w.alloc (.cells (p.map bval).toArray q))) : o.wp P a w K Q :=
  wp_buildSlice_d d t q 1 #[(0, x)] hd ho (p.map bval).toArray iq z hu hi hz (by rw [hs]; decide) (by rw [hs]; decide) (by
    rw [hs]
    simp only [List.map_toArray, List.map_cons, List.map_nil, hx]
    exact fill_one hzs hp) h
/-- append(row, number ..), the row the call's own. -/
theorem wp_append_num {o : Oper} {a : Act} {K : Act → World → Prop} {Q : Exit → Act → World → Prop} (d : Option Nat) (s y : Operand) (t : TypeId) (hd : o.dst = d) (ho : o.op = .call { callee := .builtin .append, args := #[s, y], argTypes := #[t, t] })
    (base : Nat) (q : TypeId) (hu : P.underlying t = some (.slice q)) {iq : TypeInfo} {z : Value} (hi : P.info? q = some iq) (hz : iq.zero = some z) (hsz : iq.size = 32) (hby : iq.bytes = 32) (hzs : z.cells.size = 32)
    (x : Value) (n : Nat) (xs : List Value) (hs : a.eval s = x) (hown : w.ownsRow base q 32 x n xs)
    (g c : Nat) (p : List UInt8) (hx : a.eval y = .slice (some ⟨g, 0, none⟩) 1 c) (hb : w.rangeAt g 0 (p.map bval)) (hp : p.length = 32) (hn : n ≤ 1000000) (hbase : base ≤ w.heap.size)
    (h : ∀ x' w', w'.ownsRow base q 32 x' (n + 1) (xs ++ p.map bval) → w.grownBy w' x.ownBlock → K (a.put d x') w') : o.wp P a w K Q := by
  subst hd
  exact wp_append_own w s y t ho base q iq z 32 32 hu hi hz hsz hby hzs (by omega) x n xs hs hown ⟨g, 0, none⟩ 1 c (p.map bval) hx (by rw [List.length_map, hp]) (fun j u hj => by
    rw [WideShapes.add_plain, Nat.zero_add]
    have := hb j u hj
    rwa [Nat.zero_add] at this) (bval_one _) (by unfold maxLen; omega) (by omega) hbase (fun v' w' h2 h3 _ => h v' w' h2 h3)
end

end Go.Proofs.YtcadfccijeodbaaDoor

/- Slices of numbers: cut from the front; built and appended in a region that keeps the text's order; a row of rows cut on both sides. Nothing here speaks of a program. Each theorem names its own conditions. -/
namespace Go.Proofs.YtcadfccijeodbaaDoor
open Go.RowKit
set_option linter.unusedVariables false

theorem flat_drop : ∀ {ps : List (List UInt8)}, Nums ps → ∀ (n : Nat), (ps.drop n).flatten = ps.flatten.drop (32 * n)
  | [], _, n => by simp
  | p :: ps, h, 0 => by simp
  | p :: ps, h, n + 1 => by
    have hp := h p (List.mem_cons_self ..)
    rw [List.drop_succ_cons, List.flatten_cons, flat_drop (fun q hq => h q (List.mem_cons_of_mem _ hq)) n, List.drop_append, hp,
      show 32 * (n + 1) - 32 = 32 * n by omega, show p.drop (32 * (n + 1)) = [] from List.drop_eq_nil_of_le (by omega), List.nil_append]
theorem Nums.drop {a : List (List UInt8)} (ha : Nums a) (n : Nat) : Nums (a.drop n) := fun p h => ha p (List.mem_of_mem_drop h)

section
variable {P : Program} {ops : Array Oper} {w : World} {Q : Exit → Act → World → Prop}
/-- s[k:]. -/
theorem RowN.cut {v : Value} {ps : List (List UInt8)} {t e : TypeId} (ht : P.underlying t = some (.slice e)) (hs : ∀ w, (sizeOf e).run P w = .ok 32 w) (h : RowN w v ps) (k : Nat) (hk : k ≤ ps.length) :
    ∃ v', RowN w v' (ps.drop k) ∧ ∀ w', (Instr.sliceAt t v (some (.int .i64 (k : Int))) none none).run P w' = .ok v' w' := by
  obtain ⟨h0, a, cap, rfl, h1, h2, h3, h4⟩ := h
  have e2 : P.elem t = e := by unfold Program.elem; rw [ht]
  have ht2 : P.underlying t = some (.slice (P.elem t)) := by rw [e2]; exact ht
  have hl : (ps.drop k).length = ps.length - k := by simp
  have hr : ∀ w', (Instr.sliceAt t (.slice a ps.length cap) (some (.int .i64 (k : Int))) none none).run P w' = .ok (sliced a k ps.length cap 32) w' := fun w' => by
    rw [run_sliceAt_slice w' t _ _ _ _ ht2, run_slice_l (ht := ht2) (kl := .i64) (l := (k : Int)) (h0 := by omega) (h1 := by omega), e2, hs]
    simp
  refine ⟨_, ?_, hr⟩
  unfold sliced
  by_cases hc : cap = k
  · rw [if_pos hc]
    have hv : ps.drop k = [] := List.drop_eq_nil_of_le (by omega)
    refine ⟨h0.drop k, a, cap - k, by rw [hl], by rw [hl]; omega, by omega, fun e => by have := h3 e; omega, fun h => absurd hv h⟩
  · rw [if_neg hc]
    refine ⟨h0.drop k, a.map (·.add (k * 32)), cap - k, by rw [hl], by rw [hl]; omega, by omega, fun e => ?_, fun hne => ?_⟩
    · cases a with
      | none => have := h3 rfl; omega
      | some a => cases e
    · have hne2 : ps ≠ [] := by rintro rfl; simp at hne
      obtain ⟨b, off, rfl, g1, g2⟩ := h4 hne2
      refine ⟨b, off + k * 32, by rw [Option.map_some, WideShapes.add_plain], g1, fun i hi => ?_⟩
      rw [hl] at hi
      rw [Nat.add_assoc, g2 (k * 32 + i) (by omega), List.getElem?_map, List.getElem?_map, flat_drop h0, List.getElem?_drop, Nat.mul_comm k 32]
/-- []api.Num of one number, where the text's order is kept. -/
theorem wpList_build_num {rest : List Oper} {o : Oper} {a : Act} (hgd : o.guard = none) (d : Option Nat) (t q : TypeId) (x : Operand) (p : List UInt8) (hd : o.dst = d) (ho : o.op = .buildSlice t 1 #[(0, x)]) (hu : P.underlying t = some (.slice q))
    {iq : TypeInfo} {z : Value} (hi : P.info? q = some iq) (hz : iq.zero = some z) (hs : iq.size = 32) (hzs : z.cells.size = 32) (hx : a.eval x = .agg (p.map bval).toArray) (hp : p.length = 32)
    (h : wpList P ops Q rest (a.put d (.slice (some ⟨w.heap.size, 0, none⟩) 1 1)) (w.alloc (.cells (p.map bval).toArray q))) : wpList P ops Q (o :: rest) a w :=
  wpList_plain hgd fun _ hK => wp_build_num d t q x p hd ho hu hi hz hs hzs hx hp (hK _ _ h)
/-- append(row, number ..), where the text's order is kept. -/
theorem wpList_append_num {rest : List Oper} {o : Oper} {a : Act} (hgd : o.guard = none) (d : Option Nat) (s y : Operand) (t : TypeId) (hd : o.dst = d) (ho : o.op = .call { callee := .builtin .append, args := #[s, y], argTypes := #[t, t] })
    (base : Nat) (q : TypeId) (hu : P.underlying t = some (.slice q)) {iq : TypeInfo} {z : Value} (hi : P.info? q = some iq) (hz : iq.zero = some z) (hsz : iq.size = 32) (hby : iq.bytes = 32) (hzs : z.cells.size = 32)
    (x : Value) (n : Nat) (xs : List Value) (hs : a.eval s = x) (hown : w.ownsRow base q 32 x n xs)
    (g c : Nat) (p : List UInt8) (hx : a.eval y = .slice (some ⟨g, 0, none⟩) 1 c) (hb : w.rangeAt g 0 (p.map bval)) (hp : p.length = 32) (hn : n ≤ 1000000) (hbase : base ≤ w.heap.size)
    (h : ∀ x' w', w'.ownsRow base q 32 x' (n + 1) (xs ++ p.map bval) → w.grownBy w' x.ownBlock → wpList P ops Q rest (a.put d x') w') : wpList P ops Q (o :: rest) a w :=
  wpList_plain hgd fun _ hK => wp_append_num d s y t hd ho base q hu hi hz hsz hby hzs x n xs hs hown g c p hx hb hp hn hbase (fun x' w' h1 h2 => hK _ _ (h x' w' h1 h2))
end

end Go.Proofs.YtcadfccijeodbaaDoor

/- Worlds in which nothing of before has changed but, it may be, one block. Nothing here speaks of a program. Each theorem names its own conditions. -/
namespace Go.Proofs.YtcadfccijeodbaaDoor
open Go.RowKit

def Far (c : Nat) (w w' : World) : Prop := ∃ wx, Ext w wx ∧ (w' = wx ∨ wx.grownBy w' (some c))
theorem fars_ext {c : Nat} {w w' : World} (h : Ext w w') : Far c w w' := ⟨w', h, Or.inl rfl⟩
theorem fars_put {c : Nat} {w wx w' : World} (h : Ext w wx) (g : wx.grownBy w' (some c)) : Far c w w' := ⟨wx, h, Or.inr g⟩
theorem fars_range {c a : Nat} {w w' : World} {cs : List Value} {t : TypeId} (H : Blk w a cs t) (ha : c ≠ a) (h : Far c w w') : w'.rangeAt a 0 cs := by
  obtain ⟨wx, h1, h2⟩ := h
  rcases h2 with h2 | h2
  · rw [h2]
    exact bl_range H h1
  · exact ((ext_blk H h1).grown h2 (by simp; omega)).range

end Go.Proofs.YtcadfccijeodbaaDoor

/- The walks of the document's own hash trees: half, Root, Path, up, Check, SameNums. Each theorem names its own conditions. -/
namespace Go.Proofs.YtcadfccijeodbaaDoor
open Go.RowKit
set_option linter.unusedVariables false
set_option linter.unusedSimpArgs false

set_option maxRecDepth 100000 in
set_option maxHeartbeats 4000000 in
theorem rhalf_any (n : Nat) (w : World) (h2 : 2 ≤ n) (hn : n ≤ 1152921504606846976) :
    Calls Tryd.prog 23 #[.int .i64 (n : Int)] w fun e w' => e = .returned (.int .i64 ((merK n : Nat) : Int)) ∧ w = w' := by
  have n0 : (0 : Int) ≤ (n : Int) := Int.natCast_nonneg _
  go_enter Tryd.func23, Tryd.ntmps23
  go_wp2_with fail
  go_loop [3] (fun iv => ∃ (j k : Nat), k = 2 ^ j ∧ k < n ∧ iv = .int .i64 (k : Int)) (fun iv => n - (intOf iv).toNat)
  case atStart => exact ⟨0, 1, rfl, by omega, rfl⟩
  case round =>
    obtain ⟨j, k, hj, hk, rfl⟩ := hrel
    have HJ := Lib.hid hj
    have k0 : (0 : Int) ≤ (k : Int) := Int.natCast_nonneg _
    have k1 : 2 * (k : Int) ≤ 2305843009213693952 := by omega
    have HP : Hid (0 < k) := Lib.hid (by rw [hj]; exact Nat.pow_pos (by omega))
    clear hj
    by_cases hlt : 2 * k < n
    · have hlt2 : 2 * (k : Int) < (n : Int) := by omega
      go_wp2_with fail
      go_round
      case rel => exact ⟨j + 1, 2 * k, by rw [HJ.out, Nat.pow_succ, Nat.mul_comm], hlt, by go_num⟩
      case measure =>
        have := HP.out
        simp [intOf]
        omega
    · have hlt2 : ¬ 2 * (k : Int) < (n : Int) := by omega
      have HK : Hid (merK n = k) := Lib.hid (by rw [HJ.out]; exact merK_of h2 (by have := HJ.out; omega) (by have := HJ.out; omega))
      go_wp2_with fail
      go_ret
      exact ⟨by rw [HK.out]; rfl, rfl⟩

section
variable {P : Program} {w : World}
theorem rowB_upto {t e : TypeId} (ht : P.underlying t = some (.slice e)) (hs : ∀ w, (sizeOf e).run P w = .ok 1 w) {v : Value} {ls : List (List UInt8)} (h : RowB w v ls) (k : Nat) (hk : k ≤ ls.length) :
    ∃ v', RowB w v' (ls.take k) ∧ ∀ w', (Instr.sliceAt t v none (some (.int .i64 (k : Int))) none).run P w' = .ok v' w' := by
  obtain ⟨vals, hr, hl, hx⟩ := h
  obtain ⟨v', h1, h2⟩ := row_upto ht hs hr k (by omega)
  refine ⟨v', ⟨vals.take k, h1, by rw [List.length_take, List.length_take, hl], fun i x l hx1 hl1 => ?_⟩, h2⟩
  rw [List.getElem?_take] at hx1 hl1
  split at hx1
  · rename_i hik
    rw [if_pos hik] at hl1
    exact hx i x l hx1 hl1
  · cases hx1
theorem rowB_cut {t e : TypeId} (ht : P.underlying t = some (.slice e)) (hs : ∀ w, (sizeOf e).run P w = .ok 1 w) {v : Value} {ls : List (List UInt8)} (h : RowB w v ls) (k : Nat) (hk : k ≤ ls.length) :
    ∃ v', RowB w v' (ls.drop k) ∧ ∀ w', (Instr.sliceAt t v (some (.int .i64 (k : Int))) none none).run P w' = .ok v' w' := by
  obtain ⟨vals, hr, hl, hx⟩ := h
  obtain ⟨v', h1, h2⟩ := row_cut ht hs hr k (by omega)
  refine ⟨v', ⟨vals.drop k, h1, by rw [List.length_drop, List.length_drop, hl], fun i x l hx1 hl1 => ?_⟩, h2⟩
  rw [List.getElem?_drop] at hx1 hl1
  exact hx _ x l hx1 hl1
theorem mer_form {v : Value} {ls : List (List UInt8)} (h : RowB w v ls) : ∃ a cap, v = .slice a ls.length cap ∧ ls.length ≤ cap ∧ cap ≤ maxLen := by
  obtain ⟨vals, ⟨a, cap, hv, h1, h2, _⟩, hl, _⟩ := h
  rw [hl] at hv h1
  exact ⟨a, cap, hv, h1, h2⟩
/-- An element's cell, and that it reads as its bytes. -/
theorem rowB_elem {a : Option Addr} {n cap : Nat} {ls : List (List UInt8)} (h : RowB w (.slice a n cap) ls) (hne : 0 < ls.length) : ∃ b off, a = some ⟨b, off, none⟩ ∧ ∀ i, i < ls.length → ∃ a2 c2, w.cell? ⟨b, off + i, none⟩ = some (.slice a2 (ls.getD i []).length c2) ∧ Row1 w (.slice a2 (ls.getD i []).length c2) ((ls.getD i []).map bval) := by
  obtain ⟨vals, ⟨a', cap', hv, h1, h2, h3, h4⟩, hl, hx⟩ := h
  injection hv with e1 e2 e3
  subst e1
  obtain ⟨b, off, ha, hb, hc⟩ := h4 (by rintro rfl; simp at hl; omega)
  refine ⟨b, off, ha, fun i hi => ?_⟩
  have hv1 : vals[i]? = some (vals[i]'(by omega)) := List.getElem?_eq_getElem (by omega)
  have hl1 : ls[i]? = some (ls.getD i []) := by rw [List.getD_eq_getElem?_getD, List.getElem?_eq_getElem hi]; rfl
  have hr := hx i _ _ hv1 hl1
  obtain ⟨a2, c2, hx2, _⟩ := id hr
  rw [List.length_map] at hx2
  rw [hx2] at hr hv1
  exact ⟨a2, c2, by rw [hc i (by omega), hv1], hr⟩
end

def RootSaid (n : Nat) : Prop := ∀ (ls : List (List UInt8)) (v : Value) (w : World), ls.length = n → (∀ l ∈ ls, l.length ≤ 1000000000) → ls.length ≤ 1152921504606846976 → RowB w v ls → GlobK w →
    Calls Tryd.prog 12 #[v] w fun e w' => e = .returned (.agg ((merR ls).map bval).toArray) ∧ Below w.heap.size w w'

set_option maxRecDepth 100000 in
set_option maxHeartbeats 8000000 in
theorem rRoot_step (n : Nat) (ih : ∀ k, k < n → RootSaid k) : RootSaid n := by
  intro ls v w hn hbd hbl hv hG
  have HBL := Lib.hid hbl
  obtain ⟨i0, hi, hz0, hz1, hz2⟩ := info_parts Tryd.info5
  have HI0 := Lib.hid hi
  have HZ0 := Lib.hid hz0
  have HZ1 := Lib.hid hz1
  have HZ2 := Lib.hid hz2
  have HIH := Lib.hid ih
  have HG := Lib.hid hG
  have HBD := Lib.hid hbd
  have HN := Lib.hid hn
  obtain ⟨a, cap, rfl, r1, r2⟩ := mer_form hv
  unfold maxLen at r2
  have HV0 := Lib.hid hv
  have HB0 := Lib.hid (Blk.made w (ints .u8 (List.replicate 32 0)) 26)
  have HE0 := Lib.hid (Ext.alloc w (.cells (ints .u8 (List.replicate 32 0)).toArray 26))
  have HRL : Hid ((merR ls).length = 32) := Lib.hid (merR_length ls)
  have HIR := Lib.hid (num_size HRL.out)
  have HLR : Hid (((merR ls).map bval).length = (ints .u8 (List.replicate 32 0)).length) := Lib.hid (by rw [List.length_map, HRL.out, ints_length, List.length_replicate])
  have l0 : (0 : Int) ≤ (ls.length : Int) := Int.natCast_nonneg _
  clear ih hG hbd hbl hn hv hi hz0 hz1 hz2
  go_enter Tryd.func12, Tryd.ntmps12
  go_upto_region 1 with (fail)
  change Code.wp _ _ _ _ (w.alloc (.cells (ints .u8 (List.replicate 32 0)).toArray 26))
  generalize w.alloc (.cells (ints .u8 (List.replicate 32 0)).toArray 26) = wa at *
  obtain ⟨A, hA⟩ : ∃ A, A = w.heap.size := ⟨_, rfl⟩
  have HLA : Hid (w.heap.size ≤ A) := Lib.hid (by omega)
  rw [← hA] at HB0 ⊢
  have HV := Lib.hid (HV0.out.below HE0.out)
  clear hA HV0
  by_cases h0 : ls.length = 0
  · have h0' : (ls.length : Int) = 0 := by omega
    have HQ : Hid (sha256 [] = merR ls) := Lib.hid (merR_nil h0).symm
    go_wp2_with fail
    refine (rSha_any (.slice none 0 0) [] wa (Row1.nil wa) (by decide) (HG.out.ext HE0.out)).mono ?_
    rintro e w1 ⟨rfl, hb⟩
    rw [HQ.out]
    have HB1 := Lib.hid (ext_blk HB0.out hb)
    have HE1 := Lib.hid (HE0.out.trans hb)
    clear hb
    go_wp2_with (refine wpList_store_blk rfl _ _ _ rfl A ((merR ls).map bval) rfl rfl _ _ HB1.out HLR.out HIR.out (bval_one _) ?_; intro w10 hb10 hg10)
    refine bodyPost_ret (result_blk rfl _ A _ _ _ _ rfl hb10 Tryd.underlying26 HIR.out) rfl ⟨rfl, ext_grown HE1.out hg10 HLA.out⟩
  · have h0' : ¬ (ls.length : Int) = 0 := by omega
    by_cases h1 : ls.length = 1
    · have h1' : (ls.length : Int) = 1 := by omega
      have h10 : (0 : Int) < (ls.length : Int) := by omega
      obtain ⟨b, off, rfl, hel⟩ := rowB_elem HV.out (by omega)
      obtain ⟨a2, c2, hc, hr⟩ := hel 0 (by omega)
      have HQ : Hid (sha256 (0 :: ls.getD 0 []) = merR ls) := Lib.hid (by
        rw [merR_one' h1]
        cases ls with
        | nil => simp at h1
        | cons x t => rfl)
      have HXL : Hid ((ls.getD 0 []).length ≤ 1000000000) := Lib.hid (HBD.out _ (by
        rw [List.getD_eq_getElem?_getD, List.getElem?_eq_getElem (by omega)]
        exact List.getElem_mem _))
      generalize ls.getD 0 [] = x at *
      rw [Nat.add_zero] at hc
      have HEA := Lib.hid (Ext.alloc wa (.cells #[.int .u8 0] 5))
      have hcell : (wa.alloc (.cells #[.int .u8 0] 5)).cell? ⟨b, off, none⟩ = some (.slice a2 x.length c2) := (HEA.out.cell (World.block_lt_of_cell? wa _ hc)).trans hc
      have HR := Lib.hid (hr.below HEA.out)
      have HO := Lib.hid (own_made wa #[.int .u8 0] wa.heap.size 5 1 (([0] : List UInt8).map bval) rfl rfl (by unfold maxLen; omega) (Nat.le_refl _))
      have HSZ := Lib.hid (HEA.out.size)
      clear hc hr hel
      go_wp2_with (at_builtin; refine wpList_append_row rfl _ _ 34 rfl wa.heap.size 5 i0 (.int .u8 0) 1 Tryd.underlying34 HI0.out HZ0.out HZ1.out HZ2.out rfl _ _ _ rfl HO.out rfl HR.out (bval_one _) (by have := HXL.out; rw [List.length_map]; unfold maxLen; omega) (by have := HXL.out; rw [List.length_map]; omega) HSZ.out ?_; intro v4 w4 hown4 hgrow4)
      have HX4 := Lib.hid (ext_own HEA.out HO.out (Nat.le_refl _) hgrow4)
      have HR4 : Hid (Row1 w4 v4 ((0 :: x).map bval)) := Lib.hid (by have h := Row1.of_own hown4; simpa using h)
      clear hown4 hgrow4 HO HR hcell
      refine (rSha_any v4 (0 :: x) w4 HR4.out (by have := HXL.out; rw [List.length_cons]; omega) (HG.out.ext (HE0.out.trans HX4.out))).mono ?_
      rintro e w1 ⟨rfl, hb⟩
      rw [HQ.out]
      have HB1 := Lib.hid (ext_blk HB0.out (HX4.out.trans hb))
      have HE1 := Lib.hid (HE0.out.trans (HX4.out.trans hb))
      clear hb
      go_wp2_with (refine wpList_store_blk rfl _ _ _ rfl A ((merR ls).map bval) rfl rfl _ _ HB1.out HLR.out HIR.out (bval_one _) ?_; intro w10 hb10 hg10)
      refine bodyPost_ret (result_blk rfl _ A _ _ _ _ rfl hb10 Tryd.underlying26 HIR.out) rfl ⟨rfl, ext_grown HE1.out hg10 HLA.out⟩
    · have h1' : ¬ (ls.length : Int) = 1 := by omega
      have h2 : 2 ≤ ls.length := by omega
      have HK1 := Lib.hid (merK_lt h2)
      have HK0 := Lib.hid (merK_pos ls.length)
      have HM := Lib.hid (merR_two h2)
      have HH := Lib.hid (fun w' => rhalf_any ls.length w' h2 HBL.out)
      obtain ⟨k, hk⟩ : ∃ k, k = merK ls.length := ⟨_, rfl⟩
      rw [← hk] at HK1 HK0 HM HH
      clear hk
      have k0 : (0 : Int) ≤ (k : Int) := Int.natCast_nonneg _
      have k1 : (k : Int) ≤ (ls.length : Int) := by have := HK1.out; omega
      have k2 : (k : Int) ≤ (cap : Int) := by have := HK1.out; omega
      obtain ⟨v1, hv1, hs1⟩ := rowB_upto Tryd.underlying22 Tryd.sizeOf34 HV.out k (by have := HK1.out; omega)
      obtain ⟨v2, hv2, hs2⟩ := rowB_cut Tryd.underlying22 Tryd.sizeOf34 HV.out k (by have := HK1.out; omega)
      obtain ⟨a1, c1, rfl, _⟩ := mer_form hv1
      obtain ⟨a2, c2, rfl, _⟩ := mer_form hv2
      have HV1 := Lib.hid hv1
      have HV2 := Lib.hid hv2
      have HC1 : Hid (∀ wx, Ext wa wx → Calls Tryd.prog 12 #[.slice a1 (ls.take k).length c1] wx fun e w' => e = .returned (.agg ((merR (ls.take k)).map bval).toArray) ∧ Below wx.heap.size wx w') := Lib.hid (fun wx hx => by
        have hlen : (ls.take k).length = k := by rw [List.length_take]; have := HK1.out; omega
        exact HIH.out k (by have := HK1.out; have := HN.out; omega) (ls.take k) _ wx hlen (fun l hl => HBD.out l (List.mem_of_mem_take hl)) (by rw [hlen]; have := HK1.out; have := HBL.out; omega) (HV1.out.below hx) (HG.out.ext (HE0.out.trans hx)))
      have HC2 : Hid (∀ wx, Ext wa wx → Calls Tryd.prog 12 #[.slice a2 (ls.drop k).length c2] wx fun e w' => e = .returned (.agg ((merR (ls.drop k)).map bval).toArray) ∧ Below wx.heap.size wx w') := Lib.hid (fun wx hx => by
        have hlen : (ls.drop k).length = ls.length - k := by rw [List.length_drop]
        exact HIH.out (ls.length - k) (by have := HK0.out; have := HK1.out; have := HN.out; omega) (ls.drop k) _ wx hlen (fun l hl => HBD.out l (List.mem_of_mem_drop hl)) (by rw [hlen]; have := HBL.out; omega) (HV2.out.below hx) (HG.out.ext (HE0.out.trans hx)))
      have HaL : Hid ((merR (ls.take k)).length = 32) := Lib.hid (merR_length _)
      have HbL : Hid ((merR (ls.drop k)).length = 32) := Lib.hid (merR_length _)
      generalize merR (ls.take k) = ra at *
      generalize merR (ls.drop k) = rb at *
      generalize (ls.take k).length = n1 at *
      generalize (ls.drop k).length = n2 at *
      have HRQ : Hid (merR ls = sha256 (1 :: (ra ++ rb))) := Lib.hid HM.out
      have HIa := Lib.hid (num_size HaL.out)
      have HIb := Lib.hid (num_size HbL.out)
      have HLa : Hid ((ra.map bval).length = (ints .u8 (List.replicate 32 0)).length) := Lib.hid (by rw [List.length_map, HaL.out, ints_length, List.length_replicate])
      have HLb : Hid ((rb.map bval).length = (ints .u8 (List.replicate 32 0)).length) := Lib.hid (by rw [List.length_map, HbL.out, ints_length, List.length_replicate])
      clear hv1 hv2 HM HRL HIR HLR
      have HE : Hid (Ext w wa) := HE0
      go_wp2_with fail
      refine (HH.out wa).mono ?_
      rintro e w' ⟨rfl, rfl⟩
      go_wp2_with fail
      refine (HC1.out wa (Ext.refl _)).mono ?_
      rintro e w1 ⟨rfl, hb⟩
      have HW : Hid (Ext wa w1) := Lib.hid hb
      have HB0 := Lib.hid (ext_blk HB0.out hb)
      have HE := Lib.hid (HE.out.trans hb)
      have HZ := Lib.hid (Blk.made w1 (ints .u8 (List.replicate 32 0)) 26)
      have HEA := Lib.hid (Ext.alloc w1 (.cells (ints .u8 (List.replicate 32 0)).toArray 26))
      clear hb
      go_upto_region 8 with (refine wpList_store_blk rfl _ _ _ rfl w1.heap.size (ra.map bval) rfl rfl _ _ HZ.out HLa.out HIa.out (bval_one _) ?_; intro w2 hb2 hg2)
      have HX := Lib.hid (ext_grown HEA.out hg2 (Nat.le_refl _))
      have HB0 := Lib.hid (ext_blk HB0.out HX.out)
      have HE := Lib.hid (HE.out.trans HX.out)
      have HW := Lib.hid (HW.out.trans HX.out)
      have H4 := Lib.hid hb2
      generalize w1.heap.size = B4 at *
      clear hb2 hg2 HZ HEA HX HH HC1
      go_wp2_with fail
      refine (HC2.out w2 HW.out).mono ?_
      rintro e w3 ⟨rfl, hb⟩
      have HB0 := Lib.hid (ext_blk HB0.out hb)
      have H4 := Lib.hid (ext_blk H4.out hb)
      have HE := Lib.hid (HE.out.trans hb)
      have HZ := Lib.hid (Blk.made w3 (ints .u8 (List.replicate 32 0)) 26)
      have HEA := Lib.hid (Ext.alloc w3 (.cells (ints .u8 (List.replicate 32 0)).toArray 26))
      clear hb HW
      go_upto_region 9 with (refine wpList_store_blk rfl _ _ _ rfl w3.heap.size (rb.map bval) rfl rfl _ _ HZ.out HLb.out HIb.out (bval_one _) ?_; intro w4 hb4 hg4)
      have HX := Lib.hid (ext_grown HEA.out hg4 (Nat.le_refl _))
      have HB0 := Lib.hid (ext_blk HB0.out HX.out)
      have H4 := Lib.hid (ext_blk H4.out HX.out)
      have HE := Lib.hid (HE.out.trans HX.out)
      have H5 := Lib.hid hb4
      generalize w3.heap.size = B5 at *
      clear hb4 hg4 HZ HEA HX HC2 HV1 HV2 hs1 hs2 HE0 HIH
      have B0 : Ext w4 w4.drew := Ext.drew _
      refine wp_region_held_drew (S := fun w' => Far (A) w4 w') (by kernel_rfl) (fars_ext B0) (fun hHeld => ?_)
      refine wpAnyH_take (i := 1) (v := .slice (some ⟨B4, 0, none⟩) 32 32) rfl (by kernel_rfl) (by kernel_rfl) (by kernel_rfl) (fun _ _ _ h => h) (yi_slice _ _ _ _ (.pointer (some ⟨B4, 0, none⟩)) (.slice (some ⟨B4, 0, none⟩) 32 32) none none (by rfl) rfl rfl rfl rfl (fun w => cut_whole Tryd.underlying26 Tryd.sizeOf5 (by omega) _ w)) hHeld ?_
      simp only [Act.put, List.getElem_toArray, List.getElem_cons_zero, List.getElem_cons_succ, List.setIfInBounds_toArray, List.set_cons_zero, List.set_cons_succ]
      refine wpAnyH_take (i := 3) (v := .slice (some ⟨B5, 0, none⟩) 32 32) rfl (by kernel_rfl) (by kernel_rfl) (by kernel_rfl) (fun _ _ _ h => h) (yi_slice _ _ _ _ (.pointer (some ⟨B5, 0, none⟩)) (.slice (some ⟨B5, 0, none⟩) 32 32) none none (by rfl) rfl rfl rfl rfl (fun w => cut_whole Tryd.underlying26 Tryd.sizeOf5 (by omega) _ w)) hHeld ?_
      simp only [Act.put, List.getElem_toArray, List.getElem_cons_zero, List.getElem_cons_succ, List.setIfInBounds_toArray, List.set_cons_zero, List.set_cons_succ]
      refine wpAnyH_ready (rs := [0]) (by kernel_rfl) (by simp) (AllReadyH.cons rfl (fun K hK => ?_) AllReadyH.nil)
      refine step_wp (by rfl) ?_
      refine wp_buildSlice_d (some 30) _ _ _ _ rfl rfl #[.int .u8 1] i0 (.int .u8 0) Tryd.underlying34 HI0.out HZ0.out (by rw [HZ1.out]; decide) (by rw [HZ1.out]; decide) (by rw [HZ1.out]; kernel_rfl) ?_
      obtain ⟨m1, hm1⟩ : ∃ wNew, wNew = World.alloc w4.drew (.cells #[.int .u8 1] 5) := ⟨_, rfl⟩
      rw [← hm1]
      have b1 : Ext w4.drew m1 := by rw [hm1]; exact Ext.alloc _ _
      obtain ⟨g1, hg1⟩ : ∃ gNew, gNew = (w4.drew).heap.size := ⟨_, rfl⟩
      rw [← hg1]
      have r1 : Row1 m1 (.slice (some ⟨g1, 0, none⟩) 1 1) (([1] : List UInt8).map bval) := by rw [hm1, hg1]; exact Row1.made _ _ _ _ _ _ rfl rfl rfl (by unfold maxLen; omega)
      have o1 : World.ownsRow m1 (w4).heap.size 5 1 (.slice (some ⟨g1, 0, none⟩) 1 1) 1 (([1] : List UInt8).map bval) := by rw [hm1, hg1]; exact own_made _ _ _ _ _ _ rfl rfl (by unfold maxLen; omega) B0.size
      clear hm1 hg1
      have N1 : Ext w4 m1 := B0.trans b1
      refine hK.out _ _ (fars_ext N1) (fun hHeld => ?_)
      clear hK K
      try simp only [Act.put, List.getElem_toArray, List.getElem_cons_zero, List.getElem_cons_succ, List.setIfInBounds_toArray, List.set_cons_zero, List.set_cons_succ]
      refine wpAnyH_ready (rs := [2]) (by kernel_rfl) (by simp) (AllReadyH.cons rfl (fun K hK => ?_) AllReadyH.nil)
      refine step_wp (by rfl) ?_
      refine wp_append_row _ _ 34 rfl (w4).heap.size 5 i0 (.int .u8 0) 1 Tryd.underlying34 HI0.out HZ0.out HZ1.out HZ2.out rfl (.slice (some ⟨g1, 0, none⟩) 1 1) 1 _ rfl o1 rfl ((blk_row (n := 32) H4.out (by rw [List.length_map]; exact HaL.out) (by unfold maxLen; omega)).below N1) (bval_one _) (by simp only [List.length_map, List.length_cons, List.length_nil, HaL.out, HbL.out]; unfold maxLen; omega) (by simp only [List.length_map, List.length_cons, List.length_nil, HaL.out, HbL.out]; omega) N1.size ?_
      intro v2 m2 ho2 hg2
      have N2 : Ext w4 m2 := ext_own N1 o1 (Nat.le_refl _) hg2
      have r2 : Row1 m2 v2 ((([1] ++ ra)).map bval) := by have h := Row1.of_own ho2; simpa using h
      have o2 : World.ownsRow m2 (w4).heap.size 5 1 v2 ((1 :: ra).length) ((1 :: ra).map bval) := own_eq ho2 (by rw [List.length_map, List.length_cons]; omega) (by rfl)
      have r2 : Row1 m2 v2 ((1 :: ra).map bval) := Row1.of_own o2
      refine hK.out _ _ (fars_ext N2) (fun hHeld => ?_)
      clear hK K
      try simp only [Act.put, List.getElem_toArray, List.getElem_cons_zero, List.getElem_cons_succ, List.setIfInBounds_toArray, List.set_cons_zero, List.set_cons_succ]
      refine wpAnyH_ready (rs := [4]) (by kernel_rfl) (by simp) (AllReadyH.cons rfl (fun K hK => ?_) AllReadyH.nil)
      refine step_wp (by rfl) ?_
      refine wp_append_row _ _ 34 rfl (w4).heap.size 5 i0 (.int .u8 0) 1 Tryd.underlying34 HI0.out HZ0.out HZ1.out HZ2.out rfl (v2) (1 :: ra).length _ rfl o2 rfl ((blk_row (n := 32) H5.out (by rw [List.length_map]; exact HbL.out) (by unfold maxLen; omega)).below N2) (bval_one _) (by simp only [List.length_map, List.length_cons, List.length_nil, HaL.out, HbL.out]; unfold maxLen; omega) (by simp only [List.length_map, List.length_cons, List.length_nil, HaL.out, HbL.out]; omega) N2.size ?_
      intro v3 m3 ho3 hg3
      have N3 : Ext w4 m3 := ext_own N2 o2 (Nat.le_refl _) hg3
      have r3 : Row1 m3 v3 (((1 :: ra ++ rb)).map bval) := by have h := Row1.of_own ho3; simpa using h
      have o3 : World.ownsRow m3 (w4).heap.size 5 1 v3 ((1 :: (ra ++ rb)).length) ((1 :: (ra ++ rb)).map bval) := own_eq ho3 (by rw [List.length_map, List.length_cons, List.length_cons, List.length_append]; omega) (by simp)
      have r3 : Row1 m3 v3 ((1 :: (ra ++ rb)).map bval) := Row1.of_own o3
      refine hK.out _ _ (fars_ext N3) (fun hHeld => ?_)
      clear hK K
      try simp only [Act.put, List.getElem_toArray, List.getElem_cons_zero, List.getElem_cons_succ, List.setIfInBounds_toArray, List.set_cons_zero, List.set_cons_succ]
      refine wpAnyH_ready (rs := [5]) (by kernel_rfl) (by simp) (AllReadyH.cons rfl (fun K hK => ?_) AllReadyH.nil)
      go_simp
      refine (rSha_any _ (1 :: (ra ++ rb)) m3 r3 (by rw [List.length_cons, List.length_append]; have := HaL.out; have := HbL.out; omega) (HG.out.ext (HE.out.trans N3))).mono ?_
      rintro e m4 ⟨rfl, b4⟩
      have r3 := r3.below b4
      have o3 := own_below o3 b4
      have N4 : Ext w4 m4 := N3.trans b4
      refine hK.out _ _ (fars_ext N4) (fun hHeld => ?_)
      clear hK K
      try simp only [Act.put, List.getElem_toArray, List.getElem_cons_zero, List.getElem_cons_succ, List.setIfInBounds_toArray, List.set_cons_zero, List.set_cons_succ]
      refine wpAnyH_ready (rs := [6]) (by kernel_rfl) (by simp) (AllReadyH.cons rfl (fun K hK => ?_) AllReadyH.nil)
      refine step_wp (by rfl) ?_
      refine wp_store_blk _ _ _ rfl (A) ((sha256 (1 :: (ra ++ rb))).map bval) rfl rfl _ _ (ext_blk HB0.out N4) (by rw [List.length_map, sha256_length, ints_length]; rfl) (num_size ((sha256_length _))) (bval_one _) ?_
      intro m5 hb5 hg5
      refine hK.out _ _ (fars_put N4 hg5) (fun hHeld => ?_)
      clear hK K
      try simp only [Act.put, List.getElem_toArray, List.getElem_cons_zero, List.getElem_cons_succ, List.setIfInBounds_toArray, List.set_cons_zero, List.set_cons_succ]
      refine wpAnyH_done (by kernel_rfl) ?_ _
      have hfin := hb5
      have hNN := ext_grown (HE.out.trans N4) hg5 HLA.out
      generalize m5 = w11 at hfin hNN ⊢
      have HIo : Hid ((Tryd.prog.info? 26).map (·.size) = some ((sha256 (1 :: (ra ++ rb))).map bval).length) := Lib.hid (num_size (sha256_length _))
      go_wp2_with fail
      refine bodyPost_ret (result_blk rfl _ A _ _ _ _ rfl hfin Tryd.underlying26 HIo.out) rfl ⟨by rw [HRQ.out], hNN⟩

theorem rRoot_any (ls : List (List UInt8)) (v : Value) (w : World) (hb : ∀ l ∈ ls, l.length ≤ 1000000000) (hl : ls.length ≤ 1152921504606846976) (hv : RowB w v ls) (hG : GlobK w) :
    Calls Tryd.prog 12 #[v] w fun e w' => e = .returned (.agg ((merR ls).map bval).toArray) ∧ Below w.heap.size w w' :=
  Nat.strongRecOn (motive := RootSaid) ls.length rRoot_step ls v w rfl hb hl hv hG

theorem own_eqS {w : World} {base size : Nat} {e : TypeId} {n m : Nat} {x : Value} {xs ys : List Value} (h : w.ownsRow base e size x n xs) (hn : n = m) (hx : xs = ys) : w.ownsRow base e size x m ys := by
  subst hn; subst hx
  exact h
def PathSaid (n : Nat) : Prop := ∀ (ls : List (List UInt8)) (v : Value) (i : Nat) (w : World), ls.length = n → (∀ l ∈ ls, l.length ≤ 1000000000) → ls.length ≤ 1152921504606846976 → i < ls.length → RowB w v ls → GlobK w →
    Calls Tryd.prog 15 #[v, .int .i64 (i : Int)] w fun e w' => ∃ x, e = .returned x ∧ w'.ownsRow w.heap.size 26 32 x (merP ls i).length ((merP ls i).flatten.map bval) ∧ Below w.heap.size w w'

set_option maxRecDepth 100000 in
set_option maxHeartbeats 8000000 in
theorem rPath_step (n : Nat) (ih : ∀ k, k < n → PathSaid k) : PathSaid n := by
  intro ls v i w hn hbd hbl hil hv hG
  obtain ⟨iq, hq0, hq1, hq2, hq3⟩ := info_numz (P := Tryd.prog) (t := 26) (z := .agg (zer.map bval).toArray) (n := 32) (b := 32) (by kernel_rfl)
  have HQ0 := Lib.hid hq0
  have HQ1 := Lib.hid hq1
  have HQ2 := Lib.hid hq2
  have HQ3 := Lib.hid hq3
  have HIH := Lib.hid ih
  have HG := Lib.hid hG
  have HBD := Lib.hid hbd
  have HBL := Lib.hid hbl
  have HIL := Lib.hid hil
  have HN := Lib.hid hn
  obtain ⟨a, cap, rfl, r1, r2⟩ := mer_form hv
  unfold maxLen at r2
  have HV := Lib.hid hv
  have l0 : (0 : Int) ≤ (ls.length : Int) := Int.natCast_nonneg _
  have i0 : (0 : Int) ≤ (i : Int) := Int.natCast_nonneg _
  clear ih hG hbd hbl hil hn hv hq0 hq1 hq2 hq3
  by_cases h2 : ls.length < 2
  · have h2' : (ls.length : Int) < 2 := by omega
    have HP0 := Lib.hid (merP_few i h2)
    go_enter Tryd.func15, Tryd.ntmps15
    go_wp2_with fail
    go_ret
    exact ⟨_, rfl, by rw [HP0.out]; exact World.ownsRow_nil _ _ _ _, Below.refl _ _⟩
  · have h2' : ¬ (ls.length : Int) < 2 := by omega
    have h2 : 2 ≤ ls.length := by omega
    have HK1 := Lib.hid (merK_lt h2)
    have HK0 := Lib.hid (merK_pos ls.length)
    have HH := Lib.hid (fun w' => rhalf_any ls.length w' h2 HBL.out)
    obtain ⟨k, hk⟩ : ∃ k, k = merK ls.length := ⟨_, rfl⟩
    rw [← hk] at HK1 HK0 HH
    have HKE := Lib.hid hk
    clear hk
    have k0 : (0 : Int) ≤ (k : Int) := Int.natCast_nonneg _
    have k1 : (k : Int) ≤ (ls.length : Int) := by have := HK1.out; omega
    have k2 : (k : Int) ≤ (cap : Int) := by have := HK1.out; omega
    obtain ⟨v1, hv1, hs1⟩ := rowB_upto Tryd.underlying22 Tryd.sizeOf34 HV.out k (by have := HK1.out; omega)
    obtain ⟨v2, hv2, hs2⟩ := rowB_cut Tryd.underlying22 Tryd.sizeOf34 HV.out k (by have := HK1.out; omega)
    obtain ⟨a1, c1, rfl, _⟩ := mer_form hv1
    obtain ⟨a2, c2, rfl, _⟩ := mer_form hv2
    have HV1 := Lib.hid hv1
    have HV2 := Lib.hid hv2
    have HS1 := Lib.hid hs1
    have HS2 := Lib.hid hs2
    clear hv1 hv2 hs1 hs2
    go_enter Tryd.func15, Tryd.ntmps15
    go_wp2_with fail
    refine (HH.out w).mono ?_
    rintro e w' ⟨rfl, rfl⟩
    by_cases hik : i < k
    · have hik' : (i : Int) < (k : Int) := by omega
      have HPE : Hid (merP ls i = merP (ls.take k) i ++ [merR (ls.drop k)]) := Lib.hid (by rw [HKE.out]; exact merP_low h2 (by rw [← HKE.out]; exact hik))
      have HP : Hid (∀ wx, Ext w wx → Calls Tryd.prog 15 #[.slice a1 (ls.take k).length c1, .int .i64 ((i : Nat) : Int)] wx fun e w' => ∃ x, e = .returned x ∧ w'.ownsRow wx.heap.size 26 32 x (merP (ls.take k) i).length ((merP (ls.take k) i).flatten.map bval) ∧ Below wx.heap.size wx w') := Lib.hid (fun wx hx => by
        have hlen : (ls.take k).length = k := by rw [List.length_take]; have := HK1.out; omega
        exact HIH.out (ls.take k).length (by rw [hlen]; have := HK0.out; have := HK1.out; have := HN.out; omega) (ls.take k) _ i wx rfl (fun l hl => HBD.out l (List.mem_of_mem_take hl)) (by rw [hlen]; have := HK1.out; have := HBL.out; omega) (by rw [hlen]; have := HIL.out; omega) (HV1.out.below hx) (HG.out.ext hx))
      have HR : Hid (∀ wx, Ext w wx → Calls Tryd.prog 12 #[.slice a2 (ls.drop k).length c2] wx fun e w' => e = .returned (.agg ((merR (ls.drop k)).map bval).toArray) ∧ Below wx.heap.size wx w') := Lib.hid (fun wx hx => rRoot_any (ls.drop k) _ wx (fun l hl => HBD.out l (List.mem_of_mem_drop hl)) (by have := HBL.out; rw [List.length_drop]; omega) (HV2.out.below hx) (HG.out.ext hx))
      have HPM : Hid ((merP (ls.take k) i).length ≤ 60) := Lib.hid (merP_most 60 _ _ (by rw [List.length_take]; have := HBL.out; omega))
      have HbL : Hid ((merR (ls.drop k)).length = 32) := Lib.hid (merR_length _)
      generalize merP (ls.take k) i = pl at *
      generalize merR (ls.drop k) = rb at *
      generalize (ls.take k).length = n1 at *
      generalize (ls.drop k).length = n2 at *
      clear HIH HKE HV1 HV2 hik
      go_upto_region 5 with (fail)
      have B0 : Ext w w.drew := Ext.drew _
      refine wp_region_held_drew (S := fun w' => Ext w w') (by kernel_rfl) B0 (fun hHeld => ?_)
      refine wpAnyH_take (i := 0) (v := .slice a ls.length cap) rfl (by kernel_rfl) (by kernel_rfl) (by kernel_rfl) (fun _ _ _ h => h) (yi_move _ (.slice a ls.length cap) (by rfl) rfl rfl) hHeld ?_
      simp only [Act.put, List.getElem_toArray, List.getElem_cons_zero, List.getElem_cons_succ, List.setIfInBounds_toArray, List.set_cons_zero, List.set_cons_succ]
      refine wpAnyH_take (i := 1) (v := .int .i64 (k : Int)) rfl (by kernel_rfl) (by kernel_rfl) (by kernel_rfl) (fun _ _ _ h => h) (yi_move _ (.int .i64 (k : Int)) (by rfl) rfl rfl) hHeld ?_
      simp only [Act.put, List.getElem_toArray, List.getElem_cons_zero, List.getElem_cons_succ, List.setIfInBounds_toArray, List.set_cons_zero, List.set_cons_succ]
      refine wpAnyH_take (i := 2) (v := .slice a1 n1 c1) rfl (by kernel_rfl) (by kernel_rfl) (by kernel_rfl) (fun _ _ _ h => h) (yi_slice _ _ _ _ (.slice a ls.length cap) (.slice a1 n1 c1) none (some (.int .i64 (k : Int))) (by rfl) rfl rfl rfl rfl HS1.out) hHeld ?_
      simp only [Act.put, List.getElem_toArray, List.getElem_cons_zero, List.getElem_cons_succ, List.setIfInBounds_toArray, List.set_cons_zero, List.set_cons_succ]
      refine wpAnyH_take (i := 3) (v := .int .i64 (i : Int)) rfl (by kernel_rfl) (by kernel_rfl) (by kernel_rfl) (fun _ _ _ h => h) (yi_move _ (.int .i64 (i : Int)) (by rfl) rfl rfl) hHeld ?_
      simp only [Act.put, List.getElem_toArray, List.getElem_cons_zero, List.getElem_cons_succ, List.setIfInBounds_toArray, List.set_cons_zero, List.set_cons_succ]
      refine wpAnyH_take (i := 5) (v := .slice a ls.length cap) rfl (by kernel_rfl) (by kernel_rfl) (by kernel_rfl) (fun _ _ _ h => h) (yi_move _ (.slice a ls.length cap) (by rfl) rfl rfl) hHeld ?_
      simp only [Act.put, List.getElem_toArray, List.getElem_cons_zero, List.getElem_cons_succ, List.setIfInBounds_toArray, List.set_cons_zero, List.set_cons_succ]
      refine wpAnyH_take (i := 6) (v := .int .i64 (k : Int)) rfl (by kernel_rfl) (by kernel_rfl) (by kernel_rfl) (fun _ _ _ h => h) (yi_move _ (.int .i64 (k : Int)) (by rfl) rfl rfl) hHeld ?_
      simp only [Act.put, List.getElem_toArray, List.getElem_cons_zero, List.getElem_cons_succ, List.setIfInBounds_toArray, List.set_cons_zero, List.set_cons_succ]
      refine wpAnyH_take (i := 7) (v := .slice a2 n2 c2) rfl (by kernel_rfl) (by kernel_rfl) (by kernel_rfl) (fun _ _ _ h => h) (yi_slice _ _ _ _ (.slice a ls.length cap) (.slice a2 n2 c2) (some (.int .i64 (k : Int))) none (by rfl) rfl rfl rfl rfl HS2.out) hHeld ?_
      simp only [Act.put, List.getElem_toArray, List.getElem_cons_zero, List.getElem_cons_succ, List.setIfInBounds_toArray, List.set_cons_zero, List.set_cons_succ]
      refine wpAnyH_ready (rs := [4]) (by kernel_rfl) (by simp) (AllReadyH.cons rfl (fun K hK => ?_) AllReadyH.nil)
      go_simp
      refine (HP.out w.drew B0).mono ?_
      rintro e m1 ⟨x1, rfl, o1, b1⟩
      have o1 := own_mono o1 B0.size
      have N1 : Ext w m1 := B0.trans b1
      refine hK.out _ _ N1 (fun hHeld => ?_)
      clear hK K
      try simp only [Act.put, List.getElem_toArray, List.getElem_cons_zero, List.getElem_cons_succ, List.setIfInBounds_toArray, List.set_cons_zero, List.set_cons_succ]
      refine wpAnyH_ready (rs := [8]) (by kernel_rfl) (by simp) (AllReadyH.cons rfl (fun K hK => ?_) AllReadyH.nil)
      go_simp
      refine (HR.out m1 N1).mono ?_
      rintro e m2 ⟨rfl, b2⟩
      have o1 := own_below o1 b2
      have N2 : Ext w m2 := N1.trans b2
      refine hK.out _ _ N2 (fun hHeld => ?_)
      clear hK K
      try simp only [Act.put, List.getElem_toArray, List.getElem_cons_zero, List.getElem_cons_succ, List.setIfInBounds_toArray, List.set_cons_zero, List.set_cons_succ]
      refine wpAnyH_ready (rs := [9]) (by kernel_rfl) (by simp) (AllReadyH.cons rfl (fun K hK => ?_) AllReadyH.nil)
      refine step_wp (by rfl) ?_
      refine wp_build_num (some 24) _ _ _ rb rfl rfl Tryd.underlying28 HQ0.out HQ1.out HQ2.out (by rfl) rfl HbL.out ?_
      obtain ⟨m3, hm3⟩ : ∃ wNew, wNew = World.alloc m2 (.cells (rb.map bval).toArray 26) := ⟨_, rfl⟩
      rw [← hm3]
      have b3 : Ext m2 m3 := by rw [hm3]; exact Ext.alloc _ _
      obtain ⟨g3, hg3⟩ : ∃ gNew, gNew = (m2).heap.size := ⟨_, rfl⟩
      rw [← hg3]
      have o1 := own_below o1 b3
      have z3 : Blk m3 g3 (rb.map bval) 26 := by rw [hm3, hg3]; exact Blk.made _ _ _
      clear hm3 hg3
      have N3 : Ext w m3 := N2.trans b3
      refine hK.out _ _ N3 (fun hHeld => ?_)
      clear hK K
      try simp only [Act.put, List.getElem_toArray, List.getElem_cons_zero, List.getElem_cons_succ, List.setIfInBounds_toArray, List.set_cons_zero, List.set_cons_succ]
      refine wpAnyH_ready (rs := [10]) (by kernel_rfl) (by simp) (AllReadyH.cons rfl (fun K hK => ?_) AllReadyH.nil)
      refine step_wp (by rfl) ?_
      refine wp_append_num (some 25) _ _ _ rfl rfl (w).heap.size _ Tryd.underlying28 HQ0.out HQ1.out HQ2.out HQ3.out (by rfl) _ _ _ rfl o1 g3 1 rb rfl z3.range HbL.out (by have := HPM.out; omega) N3.size ?_
      intro v4 m4 ho4 hg4
      have N4 : Ext w m4 := ext_ownS N3 o1 (Nat.le_refl _) hg4
      refine hK.out _ _ N4 (fun hHeld => ?_)
      clear hK K
      try simp only [Act.put, List.getElem_toArray, List.getElem_cons_zero, List.getElem_cons_succ, List.setIfInBounds_toArray, List.set_cons_zero, List.set_cons_succ]
      refine wpAnyH_ready (rs := [11]) (by kernel_rfl) (by simp) (AllReadyH.cons rfl (fun K hK => ?_) AllReadyH.nil)
      go_simp
      refine hK.out _ _ N4 (fun hHeld => ?_)
      clear hK K
      try simp only [Act.put, List.getElem_toArray, List.getElem_cons_zero, List.getElem_cons_succ, List.setIfInBounds_toArray, List.set_cons_zero, List.set_cons_succ]
      refine wpAnyH_done (by kernel_rfl) ?_ _
      have HO := Lib.hid ho4
      have HN9 : Hid (Ext w m4) := Lib.hid N4
      generalize m4 = w9 at HO HN9 ⊢
      go_wp2_with fail
      go_ret
      exact ⟨_, rfl, own_eqS HO.out (by rw [HPE.out, List.length_append, List.length_singleton]) (by rw [HPE.out, flat_snoc, List.map_append]), HN9.out⟩
    · have hik' : ¬ (i : Int) < (k : Int) := by omega
      have HPE : Hid (merP ls i = merP (ls.drop k) (i - k) ++ [merR (ls.take k)]) := Lib.hid (by rw [HKE.out]; exact merP_high h2 (by rw [← HKE.out]; exact hik))
      have HP : Hid (∀ wx, Ext w wx → Calls Tryd.prog 15 #[.slice a2 (ls.drop k).length c2, .int .i64 (((i - k) : Nat) : Int)] wx fun e w' => ∃ x, e = .returned x ∧ w'.ownsRow wx.heap.size 26 32 x (merP (ls.drop k) (i - k)).length ((merP (ls.drop k) (i - k)).flatten.map bval) ∧ Below wx.heap.size wx w') := Lib.hid (fun wx hx => by
        have hlen : (ls.drop k).length = ls.length - k := by rw [List.length_drop]
        exact HIH.out (ls.drop k).length (by rw [hlen]; have := HK0.out; have := HK1.out; have := HN.out; omega) (ls.drop k) _ (i - k) wx rfl (fun l hl => HBD.out l (List.mem_of_mem_drop hl)) (by rw [hlen]; have := HK1.out; have := HBL.out; omega) (by rw [hlen]; have := HIL.out; omega) (HV2.out.below hx) (HG.out.ext hx))
      have HR : Hid (∀ wx, Ext w wx → Calls Tryd.prog 12 #[.slice a1 (ls.take k).length c1] wx fun e w' => e = .returned (.agg ((merR (ls.take k)).map bval).toArray) ∧ Below wx.heap.size wx w') := Lib.hid (fun wx hx => rRoot_any (ls.take k) _ wx (fun l hl => HBD.out l (List.mem_of_mem_take hl)) (by have := HBL.out; rw [List.length_take]; omega) (HV1.out.below hx) (HG.out.ext hx))
      have HPM : Hid ((merP (ls.drop k) (i - k)).length ≤ 60) := Lib.hid (merP_most 60 _ _ (by rw [List.length_drop]; have := HBL.out; omega))
      have HbL : Hid ((merR (ls.take k)).length = 32) := Lib.hid (merR_length _)
      have HSUB : Hid (IntKind.i64.wrap ((i : Int) - (k : Int)) = ((i - k : Nat) : Int)) := Lib.hid (by rw [IntKind.wrap_i64]; have := HIL.out; have := HBL.out; omega)
      generalize merP (ls.drop k) (i - k) = pl at *
      generalize merR (ls.take k) = rb at *
      generalize (ls.take k).length = n1 at *
      generalize (ls.drop k).length = n2 at *
      generalize i - k = ik at *
      clear HIH HKE HV1 HV2 hik
      go_upto_region 6 with (fail)
      have B0 : Ext w w.drew := Ext.drew _
      refine wp_region_held_drew (S := fun w' => Ext w w') (by kernel_rfl) B0 (fun hHeld => ?_)
      refine wpAnyH_take (i := 0) (v := .slice a ls.length cap) rfl (by kernel_rfl) (by kernel_rfl) (by kernel_rfl) (fun _ _ _ h => h) (yi_move _ (.slice a ls.length cap) (by rfl) rfl rfl) hHeld ?_
      simp only [Act.put, List.getElem_toArray, List.getElem_cons_zero, List.getElem_cons_succ, List.setIfInBounds_toArray, List.set_cons_zero, List.set_cons_succ]
      refine wpAnyH_take (i := 1) (v := .int .i64 (k : Int)) rfl (by kernel_rfl) (by kernel_rfl) (by kernel_rfl) (fun _ _ _ h => h) (yi_move _ (.int .i64 (k : Int)) (by rfl) rfl rfl) hHeld ?_
      simp only [Act.put, List.getElem_toArray, List.getElem_cons_zero, List.getElem_cons_succ, List.setIfInBounds_toArray, List.set_cons_zero, List.set_cons_succ]
      refine wpAnyH_take (i := 2) (v := .slice a2 n2 c2) rfl (by kernel_rfl) (by kernel_rfl) (by kernel_rfl) (fun _ _ _ h => h) (yi_slice _ _ _ _ (.slice a ls.length cap) (.slice a2 n2 c2) (some (.int .i64 (k : Int))) none (by rfl) rfl rfl rfl rfl HS2.out) hHeld ?_
      simp only [Act.put, List.getElem_toArray, List.getElem_cons_zero, List.getElem_cons_succ, List.setIfInBounds_toArray, List.set_cons_zero, List.set_cons_succ]
      refine wpAnyH_take (i := 3) (v := .int .i64 (i : Int)) rfl (by kernel_rfl) (by kernel_rfl) (by kernel_rfl) (fun _ _ _ h => h) (yi_move _ (.int .i64 (i : Int)) (by rfl) rfl rfl) hHeld ?_
      simp only [Act.put, List.getElem_toArray, List.getElem_cons_zero, List.getElem_cons_succ, List.setIfInBounds_toArray, List.set_cons_zero, List.set_cons_succ]
      refine wpAnyH_take (i := 4) (v := .int .i64 (k : Int)) rfl (by kernel_rfl) (by kernel_rfl) (by kernel_rfl) (fun _ _ _ h => h) (yi_move _ (.int .i64 (k : Int)) (by rfl) rfl rfl) hHeld ?_
      simp only [Act.put, List.getElem_toArray, List.getElem_cons_zero, List.getElem_cons_succ, List.setIfInBounds_toArray, List.set_cons_zero, List.set_cons_succ]
      refine wpAnyH_take (i := 5) (v := .int .i64 (ik : Int)) rfl (by kernel_rfl) (by kernel_rfl) (by kernel_rfl) (fun _ _ _ h => h) (yi_sub .i64 _ _ _ _ _ _ (ik : Int) HSUB.out (by rfl) rfl rfl rfl) hHeld ?_
      simp only [Act.put, List.getElem_toArray, List.getElem_cons_zero, List.getElem_cons_succ, List.setIfInBounds_toArray, List.set_cons_zero, List.set_cons_succ]
      refine wpAnyH_take (i := 7) (v := .slice a ls.length cap) rfl (by kernel_rfl) (by kernel_rfl) (by kernel_rfl) (fun _ _ _ h => h) (yi_move _ (.slice a ls.length cap) (by rfl) rfl rfl) hHeld ?_
      simp only [Act.put, List.getElem_toArray, List.getElem_cons_zero, List.getElem_cons_succ, List.setIfInBounds_toArray, List.set_cons_zero, List.set_cons_succ]
      refine wpAnyH_take (i := 8) (v := .int .i64 (k : Int)) rfl (by kernel_rfl) (by kernel_rfl) (by kernel_rfl) (fun _ _ _ h => h) (yi_move _ (.int .i64 (k : Int)) (by rfl) rfl rfl) hHeld ?_
      simp only [Act.put, List.getElem_toArray, List.getElem_cons_zero, List.getElem_cons_succ, List.setIfInBounds_toArray, List.set_cons_zero, List.set_cons_succ]
      refine wpAnyH_take (i := 9) (v := .slice a1 n1 c1) rfl (by kernel_rfl) (by kernel_rfl) (by kernel_rfl) (fun _ _ _ h => h) (yi_slice _ _ _ _ (.slice a ls.length cap) (.slice a1 n1 c1) none (some (.int .i64 (k : Int))) (by rfl) rfl rfl rfl rfl HS1.out) hHeld ?_
      simp only [Act.put, List.getElem_toArray, List.getElem_cons_zero, List.getElem_cons_succ, List.setIfInBounds_toArray, List.set_cons_zero, List.set_cons_succ]
      refine wpAnyH_ready (rs := [6]) (by kernel_rfl) (by simp) (AllReadyH.cons rfl (fun K hK => ?_) AllReadyH.nil)
      go_simp
      refine (HP.out w.drew B0).mono ?_
      rintro e m1 ⟨x1, rfl, o1, b1⟩
      have o1 := own_mono o1 B0.size
      have N1 : Ext w m1 := B0.trans b1
      refine hK.out _ _ N1 (fun hHeld => ?_)
      clear hK K
      try simp only [Act.put, List.getElem_toArray, List.getElem_cons_zero, List.getElem_cons_succ, List.setIfInBounds_toArray, List.set_cons_zero, List.set_cons_succ]
      refine wpAnyH_ready (rs := [10]) (by kernel_rfl) (by simp) (AllReadyH.cons rfl (fun K hK => ?_) AllReadyH.nil)
      go_simp
      refine (HR.out m1 N1).mono ?_
      rintro e m2 ⟨rfl, b2⟩
      have o1 := own_below o1 b2
      have N2 : Ext w m2 := N1.trans b2
      refine hK.out _ _ N2 (fun hHeld => ?_)
      clear hK K
      try simp only [Act.put, List.getElem_toArray, List.getElem_cons_zero, List.getElem_cons_succ, List.setIfInBounds_toArray, List.set_cons_zero, List.set_cons_succ]
      refine wpAnyH_ready (rs := [11]) (by kernel_rfl) (by simp) (AllReadyH.cons rfl (fun K hK => ?_) AllReadyH.nil)
      refine step_wp (by rfl) ?_
      refine wp_build_num (some 37) _ _ _ rb rfl rfl Tryd.underlying28 HQ0.out HQ1.out HQ2.out (by rfl) rfl HbL.out ?_
      obtain ⟨m3, hm3⟩ : ∃ wNew, wNew = World.alloc m2 (.cells (rb.map bval).toArray 26) := ⟨_, rfl⟩
      rw [← hm3]
      have b3 : Ext m2 m3 := by rw [hm3]; exact Ext.alloc _ _
      obtain ⟨g3, hg3⟩ : ∃ gNew, gNew = (m2).heap.size := ⟨_, rfl⟩
      rw [← hg3]
      have o1 := own_below o1 b3
      have z3 : Blk m3 g3 (rb.map bval) 26 := by rw [hm3, hg3]; exact Blk.made _ _ _
      clear hm3 hg3
      have N3 : Ext w m3 := N2.trans b3
      refine hK.out _ _ N3 (fun hHeld => ?_)
      clear hK K
      try simp only [Act.put, List.getElem_toArray, List.getElem_cons_zero, List.getElem_cons_succ, List.setIfInBounds_toArray, List.set_cons_zero, List.set_cons_succ]
      refine wpAnyH_ready (rs := [12]) (by kernel_rfl) (by simp) (AllReadyH.cons rfl (fun K hK => ?_) AllReadyH.nil)
      refine step_wp (by rfl) ?_
      refine wp_append_num (some 38) _ _ _ rfl rfl (w).heap.size _ Tryd.underlying28 HQ0.out HQ1.out HQ2.out HQ3.out (by rfl) _ _ _ rfl o1 g3 1 rb rfl z3.range HbL.out (by have := HPM.out; omega) N3.size ?_
      intro v4 m4 ho4 hg4
      have N4 : Ext w m4 := ext_ownS N3 o1 (Nat.le_refl _) hg4
      refine hK.out _ _ N4 (fun hHeld => ?_)
      clear hK K
      try simp only [Act.put, List.getElem_toArray, List.getElem_cons_zero, List.getElem_cons_succ, List.setIfInBounds_toArray, List.set_cons_zero, List.set_cons_succ]
      refine wpAnyH_ready (rs := [13]) (by kernel_rfl) (by simp) (AllReadyH.cons rfl (fun K hK => ?_) AllReadyH.nil)
      go_simp
      refine hK.out _ _ N4 (fun hHeld => ?_)
      clear hK K
      try simp only [Act.put, List.getElem_toArray, List.getElem_cons_zero, List.getElem_cons_succ, List.setIfInBounds_toArray, List.set_cons_zero, List.set_cons_succ]
      refine wpAnyH_done (by kernel_rfl) ?_ _
      have HO := Lib.hid ho4
      have HN9 : Hid (Ext w m4) := Lib.hid N4
      generalize m4 = w9 at HO HN9 ⊢
      go_wp2_with fail
      go_ret
      exact ⟨_, rfl, own_eqS HO.out (by rw [HPE.out, List.length_append, List.length_singleton]) (by rw [HPE.out, flat_snoc, List.map_append]), HN9.out⟩
theorem rPath_any (ls : List (List UInt8)) (v : Value) (i : Nat) (w : World) (hb : ∀ l ∈ ls, l.length ≤ 1000000000) (hl : ls.length ≤ 1152921504606846976) (hi : i < ls.length) (hv : RowB w v ls) (hG : GlobK w) :
    Calls Tryd.prog 15 #[v, .int .i64 (i : Int)] w fun e w' => ∃ x, e = .returned x ∧ w'.ownsRow w.heap.size 26 32 x (merP ls i).length ((merP ls i).flatten.map bval) ∧ Below w.heap.size w w' :=
  Nat.strongRecOn (motive := PathSaid) ls.length rPath_step ls v i w rfl hb hl hi hv hG

end Go.Proofs.YtcadfccijeodbaaDoor

/- What a slice of bytes takes. -/
namespace Go.Proofs.YtcadfccijeodbaaDoor

theorem Tryd.info34 : (Tryd.prog.info? 34).map (fun i => (i.zero, i.size)) = some (some (.slice none 0 0), 1) := by kernel_rfl

end Go.Proofs.YtcadfccijeodbaaDoor

/- The hash by blocks: a block of its own, what stands behind whole blocks makes no difference, the last blocks, the words laid out. No program. Each theorem names its own conditions. -/
namespace Go.Proofs.YtcadfccijeodbaaDoor
open Go.RowKit
set_option linter.unusedVariables false
set_option linter.unusedSimpArgs false

theorem beW_cut {m : List UInt8} {s k : Nat} (h : k + 4 ≤ 64) : beW ((m.drop s).take 64) k = beW m (s + k) := by
  have g : ∀ j, j < 64 → ((m.drop s).take 64).getD j 0 = m.getD (s + j) 0 := fun j hj => by
    simp only [List.getD, List.getElem?_take, if_pos hj, List.getElem?_drop]
  unfold beW
  rw [g k (by omega), g (k + 1) (by omega), g (k + 2) (by omega), g (k + 3) (by omega)]
  rfl
theorem wTop_cut (m : List UInt8) (s : Nat) : ∀ k, k ≤ 16 → wTop ((m.drop s).take 64) 0 k = wTop m s k
  | 0, _ => rfl
  | k + 1, h => by
    rw [wTop, wTop, wTop_cut m s k (by omega), Nat.zero_add, beW_cut (by omega)]
theorem wSch_cut (m : List UInt8) (s : Nat) : ∀ n, wSch ((m.drop s).take 64) 0 n = wSch m s n
  | 0 => wTop_cut m s 16 (Nat.le_refl _)
  | n + 1 => by rw [wSch, wSch, wSch_cut m s n]
theorem hRun_mix (m : List UInt8) (n : Nat) : hRun m (n + 1) = mixF (hRun m n) ((m.drop (64 * n)).take 64) := by
  rw [hRun, mixF, wSch_cut]
theorem hRun_front (p q : List UInt8) : ∀ n, 64 * n ≤ p.length → hRun (p ++ q) n = hRun p n
  | 0, _ => rfl
  | n + 1, h => by
    rw [hRun_mix, hRun_mix, hRun_front p q n (by omega)]
    congr 1
    rw [List.drop_append_of_le_length (by omega), List.take_append_of_le_length (by rw [List.length_drop]; omega)]
/-- One more block. -/
theorem hRun_block (p x : List UInt8) (n : Nat) (hp : p.length = 64 * n) (hx : x.length = 64) (q : List UInt8) : hRun (p ++ x ++ q) (n + 1) = mixF (hRun p n) x := by
  rw [hRun_mix, List.append_assoc, hRun_front p (x ++ q) n (by omega), List.drop_append_of_le_length (by omega), ← hp, List.drop_length, List.nil_append, List.take_append_of_le_length (by omega), List.take_of_length_le (by omega)]

theorem ofNat_mod (n : Nat) : UInt8.ofNat (n % 256) = UInt8.ofNat n := by
  apply UInt8.toNat_inj.1
  rw [UInt8.toNat_ofNat', UInt8.toNat_ofNat']
  omega
/-- A word's bytes. -/
def be4 (x : W32) : List UInt8 := [UInt8.ofNat (x.toNat / 16777216), UInt8.ofNat (x.toNat / 65536), UInt8.ofNat (x.toNat / 256), UInt8.ofNat x.toNat]
theorem put4_at (a b : List UInt8) (x0 x1 x2 x3 : UInt8) (x : W32) : put4 (a ++ x0 :: x1 :: x2 :: x3 :: b) a.length x = a ++ be4 x ++ b := by
  unfold put4 be4
  rw [List.set_append_right _ _ (by omega), List.set_append_right _ _ (by omega), List.set_append_right _ _ (by omega), List.set_append_right _ _ (by omega)]
  have e1 : a.length + 1 - a.length = 1 := by omega
  have e2 : a.length + 2 - a.length = 2 := by omega
  have e3 : a.length + 3 - a.length = 3 := by omega
  rw [Nat.sub_self, e1, e2, e3]
  simp
/-- The length's two words. -/
theorem be4_len (n : Nat) (h : n ≤ 1099511627776) : be4 (BitVec.ofNat 32 (n / 536870912)) ++ be4 (BitVec.ofNat 32 (8 * n)) = beB 8 (8 * n) := by
  have e1 : (BitVec.ofNat 32 (n / 536870912)).toNat = n / 536870912 := by rw [BitVec.toNat_ofNat]; omega
  have e2 : (BitVec.ofNat 32 (8 * n)).toNat = 8 * n % 4294967296 := by rw [BitVec.toNat_ofNat]
  have g : ∀ a b : Nat, a % 256 = b % 256 → UInt8.ofNat a = UInt8.ofNat b := fun a b h => by rw [← ofNat_mod a, ← ofNat_mod b, h]
  simp only [be4, beB, e1, e2, List.cons_append, List.nil_append, Nat.reducePow, List.cons.injEq, and_true]
  refine ⟨g _ _ ?_, g _ _ ?_, g _ _ ?_, g _ _ ?_, g _ _ ?_, g _ _ ?_, g _ _ ?_, g _ _ ?_⟩ <;> omega
/-- A last block: what stands, the bit, noughts. -/
def lastB (l : List UInt8) (f : Nat) : List UInt8 := l.take f ++ 128 :: List.replicate (63 - f) 0
theorem lastB_length {l : List UInt8} {f : Nat} (hl : f ≤ l.length) (hf : f < 64) : (lastB l f).length = 64 := by
  simp [lastB]
  omega
theorem rep8 : List.replicate 8 (0 : UInt8) = [0, 0, 0, 0, 0, 0, 0, 0] := rfl
theorem put_len (a : List UInt8) (n : Nat) (ha : a.length = 56) (h : n ≤ 1099511627776) :
    put4 (put4 (a ++ List.replicate 8 0) 56 (BitVec.ofNat 32 (n / 536870912))) 60 (BitVec.ofNat 32 (8 * n)) = a ++ beB 8 (8 * n) := by
  have e1 := put4_at a [0, 0, 0, 0] 0 0 0 0 (BitVec.ofNat 32 (n / 536870912))
  rw [ha] at e1
  rw [rep8, e1]
  have e2 := put4_at (a ++ be4 (BitVec.ofNat 32 (n / 536870912))) [] 0 0 0 0 (BitVec.ofNat 32 (8 * n))
  have e3 : (a ++ be4 (BitVec.ofNat 32 (n / 536870912))).length = 60 := by simp [be4, ha]
  rw [e3] at e2
  rw [e2, List.append_nil, List.append_assoc, be4_len n h]
/-- The hash of what ends within one more block. -/
theorem close_one (p l : List UInt8) (n f : Nat) (hp : p.length = 64 * n + f) (hf : f < 56) (hl : l.length = 64) (hlf : l.take f = p.drop (64 * n)) (hb : p.length ≤ 1099511627776) :
    hRun (padded p) ((p.length + 72) / 64) = mixF (hRun p n) (put4 (put4 (lastB l f) 56 (BitVec.ofNat 32 (p.length / 536870912))) 60 (BitVec.ofNat 32 (8 * p.length))) := by
  have e1 : lastB l f = (l.take f ++ 128 :: List.replicate (55 - f) 0) ++ List.replicate 8 0 := by
    unfold lastB
    rw [show 63 - f = (55 - f) + 8 from by omega, ← List.replicate_append_replicate]
    simp
  rw [e1, put_len _ _ (by simp; omega) hb, hlf]
  have e2 : (p.length + 72) / 64 = n + 1 := by omega
  have e3 : padN p.length = 55 - f := by unfold padN; omega
  have e4 : padded p = p.take (64 * n) ++ (p.drop (64 * n) ++ 128 :: List.replicate (55 - f) 0 ++ beB 8 (8 * p.length)) ++ [] := by
    unfold padded
    rw [e3]
    simp only [List.append_assoc, List.append_nil, List.cons_append, List.nil_append]
    rw [← List.append_assoc, List.take_append_drop]
  have e5 : hRun p n = hRun (p.take (64 * n)) n := by
    have h := hRun_front (p.take (64 * n)) (p.drop (64 * n)) n (by simp; omega)
    rwa [List.take_append_drop] at h
  rw [e2, e4, e5, hRun_block _ _ n (by simp; omega) (by simp [beB_length]; omega)]
/-- The hash of what needs two. -/
theorem close_two (p l : List UInt8) (n f : Nat) (hp : p.length = 64 * n + f) (hf : 56 ≤ f) (hf2 : f < 64) (hl : l.length = 64) (hlf : l.take f = p.drop (64 * n)) (hb : p.length ≤ 1099511627776) :
    hRun (padded p) ((p.length + 72) / 64) = mixF (mixF (hRun p n) (lastB l f)) (put4 (put4 (List.replicate 64 0) 56 (BitVec.ofNat 32 (p.length / 536870912))) 60 (BitVec.ofNat 32 (8 * p.length))) := by
  have e1 : List.replicate 64 (0 : UInt8) = List.replicate 56 0 ++ List.replicate 8 0 := rfl
  rw [e1, put_len _ _ (by simp) hb]
  have e2 : (p.length + 72) / 64 = n + 1 + 1 := by omega
  have e3 : padN p.length = (63 - f) + 56 := by unfold padN; omega
  have e4 : padded p = (p.take (64 * n) ++ lastB l f) ++ (List.replicate 56 0 ++ beB 8 (8 * p.length)) ++ [] := by
    unfold padded lastB
    rw [e3, hlf, ← List.replicate_append_replicate]
    simp only [List.append_assoc, List.append_nil, List.cons_append, List.nil_append]
    exact (congrArg (· ++ 128 :: (List.replicate (63 - f) 0 ++ (List.replicate 56 0 ++ beB 8 (8 * p.length)))) (List.take_append_drop (64 * n) p)).symm.trans (List.append_assoc _ _ _)
  have e5 : hRun p n = hRun (p.take (64 * n)) n := by
    have h := hRun_front (p.take (64 * n)) (p.drop (64 * n)) n (by simp; omega)
    rwa [List.take_append_drop] at h
  have hlb := lastB_length (l := l) (f := f) (by omega) hf2
  have e6 := hRun_block (p.take (64 * n)) (lastB l f) n (by simp; omega) hlb []
  rw [List.append_nil] at e6
  rw [e2, e4, e5, hRun_block _ _ (n + 1) (by rw [List.length_append, hlb]; simp; omega) (by simp [beB_length]), e6]

/-- The first k words, laid out. -/
def outK (h : List W32) : Nat → List UInt8
  | 0 => List.replicate 32 0
  | k + 1 => put4 (outK h k) (4 * k) (h.getD k 0#32)
theorem outK_length (h : List W32) : ∀ k, (outK h k).length = 32
  | 0 => by simp [outK]
  | k + 1 => by rw [outK, put4_length, outK_length h k]
theorem outK_full : ∀ (h : List W32), h.length = 8 → outK h 8 = outB h
  | [a, b, c, d, e, f, g, i], _ => by
    simp only [outK, put4, outB, List.range, List.range.loop, List.map_cons, List.map_nil, ofNat_mod, List.replicate, List.getD_cons_zero, List.getD_cons_succ, List.set_cons_zero, List.set_cons_succ, Nat.reduceMul, Nat.reduceAdd, Nat.reduceDiv, Nat.reduceMod, Nat.reduceSub, Nat.reducePow, Nat.div_one]

end Go.Proofs.YtcadfccijeodbaaDoor

/- clear(s) of a slice of bytes that lies in a block known whole. Nothing here speaks of a program. Each theorem names its own conditions. -/
namespace Go.Proofs.YtcadfccijeodbaaDoor
open Go.RowKit
set_option linter.unusedVariables false

section
variable {P : Program} {w : World}
theorem zeroCells_one (x : Value) (n : Nat) : (Builtin.zeroCells #[x] n).toList = List.replicate n x := by
  unfold Builtin.zeroCells
  rw [Array.toList_map]
  apply List.ext_getElem
  · simp
  · intro i h1 h2
    simp [Nat.mod_one]
theorem run_clear_bytes {t e ty : TypeId} (ht : P.underlying t = some (.slice e)) (hz : ∀ w, (zeroValue e).run P w = .ok (.int .u8 0) w) (c o n cap : Nat) (cs : List Value) (tb : TypeId) (hb : Blk w c cs tb) (hn : o + n ≤ cs.length) :
    (Builtin.clear_ #[t] ty #[.slice (some ⟨c, o, none⟩) n cap]).run P w = .ok (.tuple #[]) (w.setCells c o (List.replicate n (.int .u8 0))) := by
  cases n with
  | zero => simp [Builtin.clear_, run_underlying ht, World.setCells]
  | succ n =>
    have hst := run_storeCells_cells (P := P) c o (List.replicate (n + 1) (.int .u8 0)) 0 w (fun j hj => by
      rw [hb.cell, List.getElem?_eq_getElem (by rw [List.length_replicate] at hj; omega)]
      rfl) (fun j _ => hb.free _) (fun v hv => by rw [List.eq_of_mem_replicate hv]; rfl)
    rw [Nat.add_zero] at hst
    simp [Builtin.clear_, run_underlying ht, hz, Value.cells, zeroCells_one, hst]
end

theorem laid_append : ∀ (vs a b : List Value), vs.length = b.length → laid (a ++ b) a.length vs = a ++ vs
  | [], a, [], _ => rfl
  | v :: r, a, x :: b, h => by
    rw [laid, List.set_append_right _ _ (Nat.le_refl _), Nat.sub_self, List.set_cons_zero]
    have ih := laid_append r (a ++ [v]) b (by simpa using h)
    simpa using ih

end Go.Proofs.YtcadfccijeodbaaDoor

/- The walks of package sha's start, closed, numOf. Each theorem names its own conditions. -/
namespace Go.Proofs.YtcadfccijeodbaaDoor
open Go.RowKit
set_option linter.unusedVariables false
set_option linter.unusedSimpArgs false

set_option maxHeartbeats 1000000 in
theorem start_any (w : World) : Calls Tryd.prog 26 #[] w fun e w' => e = .returned (.agg (ints .u32 (ws H256)).toArray) ∧ Below w.heap.size w w' := by
  have HZ := Lib.hid (Blk.made w (ints .u32 (List.replicate 8 0)) 49)
  have HE := Lib.hid (Ext.alloc w (.cells (ints .u32 (List.replicate 8 0)).toArray 49))
  go_enter Tryd.func26, Tryd.ntmps26
  go_wp2_with (refine wpList_store_blk rfl _ _ _ rfl w.heap.size (ints .u32 (ws H256)) rfl rfl _ _ HZ.out rfl Tryd.arr49 (ints_one _ _) ?_; intro w1 hb1 hg1)
  refine bodyPost_ret (result_blk rfl _ w.heap.size _ _ _ _ rfl hb1 Tryd.underlying49 Tryd.arr49) rfl ?_
  exact ⟨rfl, ext_grown HE.out hg1 (Nat.le_refl _)⟩

theorem build_block (w : World) : (Instr.build 55 #[]).run Tryd.prog w = .ok (.agg ((List.replicate 64 (0 : UInt8)).map bval).toArray) w := by
  simp [Instr.build, Tryd.zeroValue55]
  rfl
theorem index_words {T e : TypeId} {n : Nat} (hT : Tryd.prog.underlying T = some (.array n e)) (hs : ∀ w, (sizeOf e).run Tryd.prog w = .ok 1 w) (ha : ∀ w, (isAgg e).run Tryd.prog w = .ok false w) (h : List W32) (hl : h.length = n) (k : Nat) (hk : k < n) (w : World) :
    (Instr.index T (.agg (ints .u32 (ws h)).toArray) (.int .i64 (k : Int))).run Tryd.prog w = .ok (.int .u32 (wi (h.getD k 0#32))) w := by
  have hg : (ints .u32 (ws h))[k]? = some (.int .u32 (wi (h.getD k 0#32))) := by rw [ints_get (by rw [ws_length, hl]; exact hk), ws_getD]
  have hi : 0 ≤ (k : Int) ∧ (k : Int) < (n : Int) := by omega
  unfold Instr.index
  simp only [asIntOf, Sem.run_bind, Sem.run_pure, Result.andThen_ok, run_underlying hT, hi, hs, part, ha]
  rw [if_pos ⟨trivial, trivial⟩]
  simp only [Sem.run_bind, hs, ha, Result.andThen_ok, Int.toNat_natCast, Nat.mul_one, List.getElem?_toArray, hg, Bool.false_eq_true, if_false, Sem.run_pure]

set_option maxRecDepth 100000 in
set_option maxHeartbeats 8000000 in
theorem sha_numOf_any (h : List W32) (hh : h.length = 8) (w : World) : Calls Tryd.prog 30 #[.agg (ints .u32 (ws h)).toArray] w fun e w' => e = .returned (.agg ((outB h).map bval).toArray) ∧ Below w.heap.size w w' := by
  have HH := Lib.hid hh
  have HB := Lib.hid (boxes3u w (ints .u32 (ws h)) (ints .u8 (List.replicate 32 0)) (ints .u8 (List.replicate 32 0)) 49 26 26)
  have HIr : Hid ((Tryd.prog.info? 49).map (·.size) = some (ints .u32 (ws h)).length) := Lib.hid (by rw [ints_length, ws_length, hh]; exact Tryd.arr49)
  clear hh
  go_enter Tryd.func30, Tryd.ntmps30
  go_upto_region 2 with (fail)
  obtain ⟨H1, H2, H3, HE⟩ := HB.out
  change Code.wp _ _ _ _ (((w.alloc (.cells (ints .u32 (ws h)).toArray 49)).alloc (.cells (ints .u8 (List.replicate 32 0)).toArray 26)).alloc (.cells (ints .u8 (List.replicate 32 0)).toArray 26))
  generalize (((w.alloc (.cells (ints .u32 (ws h)).toArray 49)).alloc (.cells (ints .u8 (List.replicate 32 0)).toArray 26)).alloc (.cells (ints .u8 (List.replicate 32 0)).toArray 26)) = w3 at *
  obtain ⟨A, hA⟩ : ∃ A, A = w.heap.size := ⟨_, rfl⟩
  rw [← hA] at H1 H2 H3 ⊢
  have hA2 : w.heap.size ≤ A := by omega
  have H1 := Lib.hid H1
  have H2 := Lib.hid H2
  have H3 := Lib.hid H3
  have HE : Hid (Ext w w3) := Lib.hid HE
  clear hA HB
  go_wp2_with (refine wpList_load_blk rfl _ _ rfl A rfl _ _ _ _ H1.out Tryd.underlying49 HIr.out ?_)
  go_loopw [7] (fun iv wr => ∃ (k : Nat), k ≤ 8 ∧ iv = .int .i64 (k : Int) ∧ Blk wr (A + 1) (ints .u8 (List.replicate 32 0)) 26 ∧ Blk wr (A + 1 + 1) ((outK h k).map bval) 26 ∧ Ext w wr) (fun iv _ => 8 - (intOf iv).toNat)
  case atStart => exact ⟨0, by omega, rfl, H2.out, H3.out, HE.out⟩
  case round =>
    clear H1 H2 H3 HE
    obtain ⟨k, hk, rfl, hb2, hb3, hbel⟩ := hrel
    have k0 : (0 : Int) ≤ (k : Int) := Int.natCast_nonneg _
    by_cases hlk : k < 8
    · have k1 : (k : Int) < 8 := by omega
      have hi := index_words Tryd.underlying49 Tryd.sizeOf47 Tryd.isAgg47 h HH.out k hlk
      have hs := cut_arr Tryd.underlying26 num_cells Tryd.sizeOf5 wr (A + 1 + 1) (4 * k) (by omega)
      have e4 : ((4 * k : Nat) : Int) = 4 * (k : Int) := by omega
      rw [e4] at hs
      have HP := Lib.hid (put_any (A + 1 + 1) (4 * k) (32 - 4 * k) (32 - 4 * k) (outK h k) (h.getD k 0#32) _ wr hb3 (by rw [outK_length]; omega) (by omega))
      have HK : Hid (outK h (k + 1) = put4 (outK h k) (4 * k) (h.getD k 0#32)) := Lib.hid rfl
      have H2 := Lib.hid hb2
      have HE := Lib.hid hbel
      clear hb2 hb3 hbel e4
      generalize h.getD k 0#32 = y at *
      go_wp2_with fail
      refine HP.out.mono ?_
      rintro e w4 ⟨rfl, hb, hg⟩
      have H2 := Lib.hid (H2.out.grown hg (by simp))
      have HE := Lib.hid (ext_grown HE.out hg (by omega))
      have H3 := Lib.hid hb
      clear hb hg HP hs hi
      go_wp2_with fail
      go_roundw
      case rel => exact ⟨k + 1, by omega, by go_num, H2.out, by rw [HK.out]; exact H3.out, HE.out⟩
      case measure => simp [intOf]; omega
    · have hk8 : k = 8 := by omega
      subst hk8
      rw [outK_full h HH.out] at hb3
      have H2 := Lib.hid hb2
      have H3 := Lib.hid hb3
      have HE := Lib.hid hbel
      clear hb2 hb3 hbel
      have HIo : Hid ((Tryd.prog.info? 26).map (·.size) = some ((outB h).map bval).length) := Lib.hid (num_size (outB_length h))
      have HLo : Hid (((outB h).map bval).length = (ints .u8 (List.replicate 32 0)).length) := Lib.hid (by rw [List.length_map, outB_length, ints_length, List.length_replicate])
      go_wp2_with (first | (refine wpList_load_blk rfl _ _ rfl (A + 1 + 1) rfl _ _ _ _ H3.out Tryd.underlying26 HIo.out ?_) | (refine wpList_store_blk rfl _ _ _ rfl (A + 1) ((outB h).map bval) rfl rfl _ _ H2.out HLo.out HIo.out (bval_one _) ?_; intro w4 hb4 hg4))
      refine bodyPost_ret (result_blk rfl _ (A + 1) _ _ _ _ rfl hb4 Tryd.underlying26 HIo.out) rfl ?_
      exact ⟨rfl, ext_grown HE.out hg4 (by omega)⟩

theorem cut_arr2 {t : TypeId} {n : Nat} {e : TypeId} (ht : Tryd.prog.underlying t = some (.array n e)) (h : ∀ w, (sizeOf e).run Tryd.prog w = .ok 1 w) (w : World) (A p : Nat) (hp : p ≤ n) :
    ∃ o, o + (n - p) ≤ n ∧ (p < n → o = p) ∧ (Instr.sliceAt t (.pointer (some ⟨A, 0, none⟩)) (some (.int .i64 (p : Int))) none none).run Tryd.prog w = .ok (.slice (some ⟨A, o, none⟩) (n - p) (n - p)) w := by
  have e1 : Tryd.prog.arrayLen t = n := by unfold Program.arrayLen; rw [ht]
  have e2 : Tryd.prog.elem t = e := by unfold Program.elem; rw [ht]
  have hr := run_sliceAt_array_l w t ⟨A, 0, none⟩ (by rw [e1, e2]; exact ht) .i64 (p : Int) (by omega) (by rw [e1]; omega)
  rw [e2, h, e1] at hr
  by_cases hpn : n = p
  · refine ⟨0, by omega, by omega, ?_⟩
    rw [hr]
    simp [slicedAt, hpn]
  · refine ⟨p, by omega, fun _ => rfl, ?_⟩
    rw [hr]
    simp [slicedAt, Addr.add, hpn]
    exact fun h => h.symm
/-- The bit and the noughts behind it, laid over a block. -/
theorem laid_last (l : List UInt8) (f o : Nat) (hl : l.length = 64) (hf : f < 64) (ho : f + 1 < 64 → o = f + 1) :
    laid ((l.map bval).set f (.int .u8 128)) o (List.replicate (63 - f) (.int .u8 0)) = (lastB l f).map bval := by
  rw [show 63 - f = 64 - (f + 1) from by omega]
  have e0 : (Value.int .u8 128) = bval 128 := rfl
  have e1 : l.set f 128 = l.take f ++ [128] ++ l.drop (f + 1) := by
    rw [List.set_eq_take_append_cons_drop, if_pos (by omega)]
    simp
  have e2 : (List.replicate (64 - (f + 1)) (Value.int .u8 0)) = (List.replicate (64 - (f + 1)) (0 : UInt8)).map bval := by rw [List.map_replicate]; rfl
  rw [e0, ← List.map_set, e1, e2]
  by_cases h : f + 1 < 64
  · rw [ho h, List.map_append]
    have h3 : f + 1 = ((l.take f ++ [128]).map bval).length := by simp; omega
    have h4 := laid_append ((List.replicate (64 - (f + 1)) (0 : UInt8)).map bval) ((l.take f ++ [128]).map bval) ((l.drop (f + 1)).map bval) (by simp; omega)
    rw [← h3] at h4
    rw [h4, ← List.map_append]
    unfold lastB
    rw [show 64 - (f + 1) = 63 - f from by omega]
    simp
  · have h3 : f = 63 := by omega
    subst h3
    unfold lastB
    simp [laid, hl]

set_option maxRecDepth 100000 in
set_option maxHeartbeats 8000000 in
/-- The hash of p, of which n blocks are told by h and f bytes lie in l. -/
theorem closed_any (p l : List UInt8) (n f : Nat) (w : World) (hp : p.length = 64 * n + f) (hf : f < 64) (hl : l.length = 64) (hlf : l.take f = p.drop (64 * n)) (hb : p.length ≤ 1099511627776) (hG : GlobR w) :
    Calls Tryd.prog 31 #[.agg (ints .u32 (ws (hRun p n))).toArray, .agg (l.map bval).toArray, .int .i64 (f : Int), .int .i64 (p.length : Int)] w fun e w' =>
      e = .returned (.agg (ints .u32 (ws (hRun (padded p) ((p.length + 72) / 64)))).toArray) ∧ Below w.heap.size w w' := by
  have HG := Lib.hid hG
  have HB := Lib.hid (boxes3u w (ints .u32 (ws (hRun p n))) (l.map bval) (ints .u32 (List.replicate 8 0)) 49 55 49)
  have HL := Lib.hid hl
  have HR := Lib.hid (hRun_length p n)
  have hb0 : (p.length : Int) ≤ 1099511627776 := by omega
  have hf0 : (f : Int) < 64 := by omega
  have HC1 : Hid (f < 56 → _) := Lib.hid (fun h56 => close_one p l n f hp h56 hl hlf hb)
  have HC2 : Hid (56 ≤ f → _) := Lib.hid (fun h56 => close_two p l n f hp h56 hf hl hlf hb)
  generalize hRun (padded p) ((p.length + 72) / 64) = R at *
  generalize hRun p n = h at *
  have HLB := Lib.hid (lastB_length (l := l) (f := f) (by omega) hf)
  clear hG hlf hp
  go_enter Tryd.func31, Tryd.ntmps31
  go_upto_region 1 with (fail)
  obtain ⟨H1, H2, H3, HE⟩ := HB.out
  change Code.wp _ _ _ _ (((w.alloc (.cells (ints .u32 (ws h)).toArray 49)).alloc (.cells (l.map bval).toArray 55)).alloc (.cells (ints .u32 (List.replicate 8 0)).toArray 49))
  generalize (((w.alloc (.cells (ints .u32 (ws h)).toArray 49)).alloc (.cells (l.map bval).toArray 55)).alloc (.cells (ints .u32 (List.replicate 8 0)).toArray 49)) = w3 at *
  obtain ⟨A, hA⟩ : ∃ A, A = w.heap.size := ⟨_, rfl⟩
  rw [← hA] at H1 H2 H3 ⊢
  have hA2 : w.heap.size ≤ A := by omega
  have c0 : w3.cell? ⟨A + 1, f, none⟩ = some (.int .u8 ((l.getD f 0).toNat : Int)) := by rw [H2.cell, bval_get (by omega)]
  have f0 := H2.free f
  have H1 := Lib.hid H1
  have H2 := Lib.hid H2
  have H3 := Lib.hid H3
  have HE : Hid (Ext w w3) := Lib.hid HE
  clear hA HB hl
  generalize ((l.getD f 0).toNat : Int) = z0 at *
  obtain ⟨o, ho1, ho2, hs⟩ := cut_arr2 Tryd.underlying55 Tryd.sizeOf5 (w3.setCell ⟨A + 1, f, none⟩ (.int .u8 128)) (A + 1) (f + 1) (by omega)
  have ef : ((f + 1 : Nat) : Int) = (f : Int) + 1 := by omega
  rw [ef] at hs
  have HB3 := Lib.hid (H2.out.set f (.int .u8 128))
  have hcl := run_clear_bytes (ty := 0) Tryd.underlying34 Tryd.zeroValue5 (A + 1) o (63 - f) (63 - f) _ _ HB3.out (by have := HL.out; simp; omega)
  have HLL := Lib.hid (laid_last l f o HL.out hf ho2)
  clear ho1 ho2 ef
  go_upto_region 3 with (fail)
  have H2 := Blk.setCells (List.replicate (63 - f) (.int .u8 0)) _ o _ HB3.out
  rw [HLL.out] at H2
  have hg : w3.grownBy ((w3.setCell ⟨A + 1, f, none⟩ (.int .u8 128)).setCells (A + 1) o (List.replicate (63 - f) (.int .u8 0))) (some (A + 1)) := grownBy_setCells _ _ _ _ (grownBy_set (grownBy_refl w3 _) _ _)
  have H1 := Lib.hid (H1.out.grown hg (by simp))
  have H3 := Lib.hid (H3.out.grown hg (by simp))
  have HE := Lib.hid (ext_grown HE.out hg (by omega))
  have H2 := Lib.hid H2
  generalize (w3.setCell ⟨A + 1, f, none⟩ (.int .u8 128)).setCells (A + 1) o (List.replicate (63 - f) (.int .u8 0)) = w4 at *
  clear hg HB3 HLL hcl hs c0 f0
  generalize hLB : lastB l f = lb at *
  have HI1 : Hid ((Tryd.prog.info? 49).map (·.size) = some (ints .u32 (ws h)).length) := Lib.hid (by rw [ints_length, ws_length, HR.out]; exact Tryd.arr49)
  have HI2 : Hid ((Tryd.prog.info? 55).map (·.size) = some (lb.map bval).length) := Lib.hid (by rw [List.length_map, HLB.out]; exact Tryd.arr55)
  have q1 : (wi (BitVec.ofNat 32 (p.length / 536870912))) = (p.length : Int) / 536870912 := by
    unfold wi
    rw [BitVec.toNat_ofNat]
    omega
  have q2 : (wi (BitVec.ofNat 32 (8 * p.length))) = (p.length : Int) * 8 % 4294967296 := by
    unfold wi
    rw [BitVec.toNat_ofNat]
    omega
  have HQ1 := Lib.hid q1
  have HQ2 := Lib.hid q2
  have hp0 : (0 : Int) ≤ (p.length : Int) := Int.natCast_nonneg _
  generalize (BitVec.ofNat 32 (p.length / 536870912)) = x1 at *
  generalize (BitVec.ofNat 32 (8 * p.length)) = x2 at *
  generalize (p.length : Int) = N at *
  clear q1 q2 hb
  have s56 : ∀ w, (Instr.sliceAt 55 (.pointer (some ⟨A + 1, 0, none⟩)) (some (.int .i64 56)) none none).run Tryd.prog w = .ok (.slice (some ⟨A + 1, 56, none⟩) 8 8) w := fun w => cut_arr Tryd.underlying55 num_cells Tryd.sizeOf5 w (A + 1) 56 (by omega)
  have s60 : ∀ w, (Instr.sliceAt 55 (.pointer (some ⟨A + 1, 0, none⟩)) (some (.int .i64 60)) none none).run Tryd.prog w = .ok (.slice (some ⟨A + 1, 60, none⟩) 4 4) w := fun w => cut_arr Tryd.underlying55 num_cells Tryd.sizeOf5 w (A + 1) 60 (by omega)
  by_cases h56 : f < 56
  · have h57 : (f : Int) < 56 := by omega
    have HP1 := put_any (A + 1) 56 8 8 lb x1 _ w4 H2.out (by rw [HLB.out]; omega) (by omega)
    rw [HQ1.out] at HP1
    have HP1 := Lib.hid HP1
    go_wp2_with fail
    refine HP1.out.mono ?_
    rintro e w5 ⟨rfl, hb, hg⟩
    have H1 := Lib.hid (H1.out.grown hg (by simp))
    have H3 := Lib.hid (H3.out.grown hg (by simp))
    have HE := Lib.hid (ext_grown HE.out hg (by omega))
    have H2 := Lib.hid hb
    clear hb hg HP1
    have HP2 := put_any (A + 1) 60 4 4 (put4 lb 56 x1) x2 _ w5 H2.out (by rw [put4_length, HLB.out]; omega) (by omega)
    rw [HQ2.out] at HP2
    have HP2 := Lib.hid HP2
    go_wp2_with fail
    refine HP2.out.mono ?_
    rintro e w6 ⟨rfl, hb, hg⟩
    have H1 := Lib.hid (H1.out.grown hg (by simp))
    have H3 := Lib.hid (H3.out.grown hg (by simp))
    have HE := Lib.hid (ext_grown HE.out hg (by omega))
    have H2 := Lib.hid hb
    clear hb hg HP2
    have HI3 : Hid ((Tryd.prog.info? 55).map (·.size) = some ((put4 (put4 lb 56 x1) 60 x2).map bval).length) := Lib.hid (by rw [List.length_map, put4_length, put4_length, HLB.out]; exact Tryd.arr55)
    have HI4 : Hid ((Tryd.prog.info? 49).map (·.size) = some (ints .u32 (ws (mixF h (put4 (put4 lb 56 x1) 60 x2)))).length) := Lib.hid (by rw [ints_length, ws_length, mixF_length, HR.out]; exact Tryd.arr49)
    have HI5 : Hid ((ints .u32 (ws (mixF h (put4 (put4 lb 56 x1) 60 x2)))).length = (ints .u32 (List.replicate 8 0)).length) := Lib.hid (by rw [ints_length, ws_length, mixF_length, HR.out, ints_length, List.length_replicate])
    have HM := Lib.hid (mixed_any h (put4 (put4 lb 56 x1) 60 x2) w6 HR.out (by rw [put4_length, put4_length, HLB.out]) (HG.out.ext HE.out))
    go_wp2_with (first | (refine wpList_load_blk rfl _ _ rfl A rfl _ _ _ _ H1.out Tryd.underlying49 HI1.out ?_) | (refine wpList_load_blk rfl _ _ rfl (A + 1) rfl _ _ _ _ H2.out Tryd.underlying55 HI3.out ?_))
    refine HM.out.mono ?_
    rintro e w7 ⟨rfl, hb⟩
    have H3 := Lib.hid (ext_blk H3.out hb)
    have HE := Lib.hid (HE.out.trans hb)
    clear hb
    go_wp2_with (refine wpList_store_blk rfl _ _ _ rfl (A + 1 + 1) (ints .u32 (ws (mixF h (put4 (put4 lb 56 x1) 60 x2)))) rfl rfl _ _ H3.out HI5.out HI4.out (ints_one _ _) ?_; intro w8 hb8 hg8)
    refine bodyPost_ret (result_blk rfl _ (A + 1 + 1) _ _ _ _ rfl hb8 Tryd.underlying49 HI4.out) rfl ?_
    exact ⟨by rw [HC1.out h56], ext_grown HE.out hg8 (by omega)⟩
  · have h57 : 56 ≤ (f : Int) := by omega
    have HMA := Lib.hid (mixed_any h lb w4 HR.out HLB.out (HG.out.ext HE.out))
    go_wp2_with (first | (refine wpList_load_blk rfl _ _ rfl A rfl _ _ _ _ H1.out Tryd.underlying49 HI1.out ?_) | (refine wpList_load_blk rfl _ _ rfl (A + 1) rfl _ _ _ _ H2.out Tryd.underlying55 HI2.out ?_))
    refine HMA.out.mono ?_
    rintro e w9 ⟨rfl, hb⟩
    have H1 := Lib.hid (ext_blk H1.out hb)
    have H2 := Lib.hid (ext_blk H2.out hb)
    have H3 := Lib.hid (ext_blk H3.out hb)
    have HE := Lib.hid (HE.out.trans hb)
    clear hb HMA HI1
    have HRM : Hid ((mixF h lb).length = 8) := Lib.hid (by rw [mixF_length, HR.out])
    have HC3 : Hid (R = _) := Lib.hid (HC2.out (by omega))
    generalize mixF h lb = h1 at *
    have HI1 : Hid ((Tryd.prog.info? 49).map (·.size) = some (ints .u32 (ws h1)).length) := Lib.hid (by rw [ints_length, ws_length, HRM.out]; exact Tryd.arr49)
    have HI6 : Hid ((ints .u32 (ws h1)).length = (ints .u32 (ws h)).length) := Lib.hid (by rw [ints_length, ws_length, HRM.out, ints_length, ws_length, HR.out])
    have HI7 : Hid ((Tryd.prog.info? 55).map (·.size) = some ((List.replicate 64 (0 : UInt8)).map bval).length) := Lib.hid Tryd.arr55
    have HI8 : Hid (((List.replicate 64 (0 : UInt8)).map bval).length = (lb.map bval).length) := Lib.hid (by rw [List.length_map, List.length_map, HLB.out, List.length_replicate])
    have hbz := build_block
    go_upto_region 6 with (first | (refine wpList_store_blk rfl _ _ _ rfl A (ints .u32 (ws h1)) rfl rfl _ _ H1.out HI6.out HI1.out (ints_one _ _) ?_; intro w10 hb10 hg10; have K1 := Lib.hid hb10; have K2 := Lib.hid (H2.out.grown hg10 (by simp)); have K3 := Lib.hid (H3.out.grown hg10 (by simp <;> omega)); have KE := Lib.hid (ext_grown HE.out hg10 (by omega)); clear hb10 hg10) | (refine wpList_store_blk rfl _ _ _ rfl (A + 1) ((List.replicate 64 (0 : UInt8)).map bval) rfl rfl _ _ K2.out HI8.out HI7.out (bval_one _) ?_; intro w11 hb11 hg11))
    have H1 := Lib.hid (K1.out.grown hg11 (by simp))
    have H3 := Lib.hid (K3.out.grown hg11 (by simp))
    have HE := Lib.hid (ext_grown KE.out hg11 (by omega))
    have H2 := Lib.hid hb11
    have HLZ : Hid ((List.replicate 64 (0 : UInt8)).length = 64) := Lib.hid (List.length_replicate)
    generalize List.replicate 64 (0 : UInt8) = lz at *
    clear hb11 hg11 K1 K2 K3 KE HI6 HI7 HI8 HI2
    have HP1 := put_any (A + 1) 56 8 8 lz x1 _ w11 H2.out (by rw [HLZ.out]; omega) (by omega)
    rw [HQ1.out] at HP1
    have HP1 := Lib.hid HP1
    go_wp2_with fail
    refine HP1.out.mono ?_
    rintro e w5 ⟨rfl, hb, hg⟩
    have H1 := Lib.hid (H1.out.grown hg (by simp))
    have H3 := Lib.hid (H3.out.grown hg (by simp))
    have HE := Lib.hid (ext_grown HE.out hg (by omega))
    have H2 := Lib.hid hb
    clear hb hg HP1
    have HP2 := put_any (A + 1) 60 4 4 (put4 lz 56 x1) x2 _ w5 H2.out (by rw [put4_length, HLZ.out]; omega) (by omega)
    rw [HQ2.out] at HP2
    have HP2 := Lib.hid HP2
    go_wp2_with fail
    refine HP2.out.mono ?_
    rintro e w6 ⟨rfl, hb, hg⟩
    have H1 := Lib.hid (H1.out.grown hg (by simp))
    have H3 := Lib.hid (H3.out.grown hg (by simp))
    have HE := Lib.hid (ext_grown HE.out hg (by omega))
    have H2 := Lib.hid hb
    clear hb hg HP2
    have HI3 : Hid ((Tryd.prog.info? 55).map (·.size) = some ((put4 (put4 lz 56 x1) 60 x2).map bval).length) := Lib.hid (by rw [List.length_map, put4_length, put4_length, HLZ.out]; exact Tryd.arr55)
    have HI4 : Hid ((Tryd.prog.info? 49).map (·.size) = some (ints .u32 (ws (mixF h1 (put4 (put4 lz 56 x1) 60 x2)))).length) := Lib.hid (by rw [ints_length, ws_length, mixF_length, HRM.out]; exact Tryd.arr49)
    have HI5 : Hid ((ints .u32 (ws (mixF h1 (put4 (put4 lz 56 x1) 60 x2)))).length = (ints .u32 (List.replicate 8 0)).length) := Lib.hid (by rw [ints_length, ws_length, mixF_length, HRM.out, ints_length, List.length_replicate])
    have HM := Lib.hid (mixed_any h1 (put4 (put4 lz 56 x1) 60 x2) w6 HRM.out (by rw [put4_length, put4_length, HLZ.out]) (HG.out.ext HE.out))
    go_wp2_with (first | (refine wpList_load_blk rfl _ _ rfl A rfl _ _ _ _ H1.out Tryd.underlying49 HI1.out ?_) | (refine wpList_load_blk rfl _ _ rfl (A + 1) rfl _ _ _ _ H2.out Tryd.underlying55 HI3.out ?_))
    refine HM.out.mono ?_
    rintro e w7 ⟨rfl, hb⟩
    have H3 := Lib.hid (ext_blk H3.out hb)
    have HE := Lib.hid (HE.out.trans hb)
    clear hb
    go_wp2_with (refine wpList_store_blk rfl _ _ _ rfl (A + 1 + 1) (ints .u32 (ws (mixF h1 (put4 (put4 lz 56 x1) 60 x2)))) rfl rfl _ _ H3.out HI5.out HI4.out (ints_one _ _) ?_; intro w8 hb8 hg8)
    refine bodyPost_ret (result_blk rfl _ (A + 1 + 1) _ _ _ _ rfl hb8 Tryd.underlying49 HI4.out) rfl ?_
    exact ⟨by rw [HC3.out], ext_grown HE.out hg8 (by omega)⟩

end Go.Proofs.YtcadfccijeodbaaDoor
