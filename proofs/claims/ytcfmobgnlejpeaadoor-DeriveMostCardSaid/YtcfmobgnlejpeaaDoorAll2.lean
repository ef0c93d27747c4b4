/- Texts that belong together, one behind the other; each says in its own first remark what it shows. -/
import Derived.Test.YtcfmobgnlejpeaaDoorAll1
import Derived.Deep.CutRange
import Derived.Deep.RegionWith
import Derived.StillTailTactics
import Derived.Deep.QuietTactic
import Derived.BigQuiet
import Derived.Test.YtcfmobgnlejpeaaDoorRows
import Derived.Laws.CopyOwn
import Derived.Laws.MakeOwn
import Derived.Laws.Slices
import Derived.Great.BuildSlice
import Derived.Deep.RegionHeld
import Derived.Lib.ConvBytes
import Derived.Laws.AppendOwn
import Derived.Test.YtcfmobgnlejpeaaDoorProg

/- The walk of the document's own Sha. Each theorem names its own conditions. -/
namespace Go.Proofs.YtcfmobgnlejpeaaDoor
open Go.RowKit
set_option linter.unusedVariables false
set_option linter.unusedSimpArgs false

/-- The variable k256 reads as the text lays it. -/
def GlobK (w : World) : Prop := w.rangeAt 0 0 (ints .u32 (ws K256))
theorem GlobK.ext {w w' : World} (h : GlobK w) (hb : Ext w w') : GlobK w' := glob_ext h hb
theorem GlobK.cell {w : World} (h : GlobK w) {j : Nat} (hj : j < 64) : w.cell? ⟨0, j, none⟩ = some (.int .u32 (wi (K256.getD j 0#32))) := by
  have := h j (.int .u32 (wi (K256.getD j 0#32))) (by rw [ints_get (by rw [ws_length]; exact hj), ws_getD])
  simpa using this
theorem outB_getD (h : List W32) (i : Nat) (hi : i < 32) : (outB h).getD i 0 = UInt8.ofNat ((h.getD (i / 4) 0#32).toNat / 2 ^ (24 - 8 * (i % 4)) % 256) := by
  unfold outB
  simp [List.getD, hi]
theorem and_u32_255 (a : W32) : bits .and .u32 (wi a) 255 = ((a.toNat % 256 : Nat) : Int) := by
  have h : (255 : Int) = wi 255#32 := rfl
  rw [h, wi_and]
  unfold wi
  rw [BitVec.toNat_and]
  have h2 : (255#32).toNat = 2 ^ 8 - 1 := by decide
  rw [h2, Nat.and_two_pow_sub_one_eq_mod]
theorem h256_vals : ints .u32 (ws H256) = [.int .u32 1779033703, .int .u32 3144134277, .int .u32 1013904242, .int .u32 2773480762, .int .u32 1359893119, .int .u32 2600822924, .int .u32 528734635, .int .u32 1541459225] := rfl

set_option maxRecDepth 100000 in
set_option maxHeartbeats 8000000 in
theorem rSha_any (v : Value) (b : List UInt8) (w : World) (hv : Row1 w v (b.map bval)) (hb : b.length ≤ 1099511627776) (hG : GlobK w) :
    Calls Tryd.prog 22 #[v] w fun e w' => e = .returned (.agg ((sha256 b).map bval).toArray) ∧ Below w.heap.size w w' := by
  have HRW := Lib.hid hv
  have HG := Lib.hid hG
  have HB := Lib.hid (boxes2 w (ints .u8 (List.replicate 32 0)) (ints .u32 (List.replicate 8 0)) 25 48)
  have HBL := Lib.hid hb
  clear hv hG hb
  go_enter Tryd.func22, Tryd.ntmps22
  go_wp2_with (refine wpList_store_blk rfl _ _ _ rfl (w.heap.size + 1) (ints .u32 (ws H256)) rfl rfl _ _ HB.out.2.1 rfl (by rw [ints_length]; exact Tryd.arr48) (ints_one _ _) ?_; intro w1 hb1 hg1)
  have H1 := HB.out.1.grown hg1 (by simp)
  have HE := ext_grown HB.out.2.2 hg1 (by omega)
  have H2 := hb1
  obtain ⟨A, hA⟩ : ∃ A, A = w.heap.size := ⟨_, rfl⟩
  rw [← hA] at H1 H2 ⊢
  have hA2 : w.heap.size ≤ A := by omega
  have HP := Lib.hid (padded_any v b w1 (HRW.out.below HE) HBL.out)
  have H1 := Lib.hid H1
  have H2 := Lib.hid H2
  have HE := Lib.hid HE
  clear hA hb1 hg1 HB
  refine HP.out.mono ?_
  rintro e w2 ⟨mv, rfl, hrow, hb2⟩
  have H1 := Lib.hid (ext_blk H1.out hb2)
  have H2 := Lib.hid (ext_blk H2.out hb2)
  have HE := Lib.hid (HE.out.trans hb2)
  have hpl := padded_length b
  obtain ⟨m, hm⟩ : ∃ m, m = padded b := ⟨_, rfl⟩
  obtain ⟨N, hN⟩ : ∃ N, N = (b.length + 72) / 64 := ⟨_, rfl⟩
  have HM := Lib.hid hm
  have HN := Lib.hid hN
  rw [← hm] at hrow hpl
  rw [← hN] at hpl
  have HR := Lib.hid hrow
  obtain ⟨a, cap, rfl, r1, r2, r3, r4⟩ := id hrow
  rw [List.length_map, hpl] at r1 HR ⊢
  unfold maxLen at r2
  obtain ⟨b', off, rfl, hbs, hcell⟩ := r4 (by intro e; have h := congrArg List.length e; rw [List.length_map, hpl] at h; simp only [List.length_nil] at h; omega)
  have hms : MsgAt w2.heap.size b' off m w2 := ⟨hbs, Nat.le_refl _, fun j hj => by rw [hcell j (by rw [List.length_map]; exact hj), bval_get hj]⟩
  have hbA : b' ≠ A + 1 := by
    rintro rfl
    have h1 := hms.2.2 0 (by omega)
    rw [H2.out.cell] at h1
    exact (not_bytes (by decide)) h1
  have HBA := Lib.hid hbA
  have HMS := Lib.hid hms
  have HBS := Lib.hid hbs
  have hNb : N ≤ 17179869300 := by have := HBL.out; omega
  have HML := Lib.hid hpl
  clear hb2 hrow hm hN hpl r3 r4 HP HRW hms hcell hbA hbs
  go_wp2_with fail
  go_loopw [5] (fun iv wr => ∃ (n : Nat), n ≤ N ∧ iv = .int .i64 (64 * (n : Int)) ∧ Blk wr (A + 1) (ints .u32 (ws (hRun m n))) 48 ∧ Blk wr A (ints .u8 (List.replicate 32 0)) 25 ∧ MsgAt w2.heap.size b' off m wr ∧ Ext w wr) (fun iv _ => 64 * N - (intOf iv).toNat)
  case atStart => exact ⟨0, by omega, rfl, H2.out, H1.out, HMS.out, HE.out⟩
  case round =>
    clear H1 H2 HE
    obtain ⟨n, hn, rfl, hb2, hb1, he2, hbel⟩ := hrel
    have n0 : (0 : Int) ≤ 64 * (n : Int) := by omega
    by_cases hlt : n < N
    · have n1 : 64 * (n : Int) < 64 * (N : Int) := by omega
      have H1 := Lib.hid hb1
      have H2 := Lib.hid hb2
      have HE := Lib.hid hbel
      have HE2 := Lib.hid he2
      clear hb1 hb2 hbel he2
      have HZ := Lib.hid (Blk.made wr (ints .u32 (List.replicate 64 0)) 60)
      have hDA := H2.out.lt
      have H1 := Lib.hid (H1.out.alloc (.cells (ints .u32 (List.replicate 64 0)).toArray 60))
      have H2 := Lib.hid (H2.out.alloc (.cells (ints .u32 (List.replicate 64 0)).toArray 60))
      have HE2' := HE2.out.2.1
      have HE := Lib.hid (HE.out.trans (Ext.alloc wr (.cells (ints .u32 (List.replicate 64 0)).toArray 60)))
      have HE2 := Lib.hid (HE2.out.ext (Ext.alloc wr (.cells (ints .u32 (List.replicate 64 0)).toArray 60)))
      have hD2 : w2.heap.size ≤ wr.heap.size := HE2'
      clear HE2'
      go_upto_region 7 with (fail)
      change Code.wp _ _ _ _ (wr.alloc (.cells (ints .u32 (List.replicate 64 0)).toArray 60))
      generalize wr.alloc (.cells (ints .u32 (List.replicate 64 0)).toArray 60) = w3 at *
      generalize wr.heap.size = D at *
      go_wp2_with fail
      go_loopw [7] (fun iv wr => ∃ (k : Nat), k ≤ 16 ∧ iv = .int .i64 (k : Int) ∧ Blk wr D (ints .u32 (ws (wTop m (64 * n) k))) 60 ∧ Blk wr (A + 1) (ints .u32 (ws (hRun m n))) 48 ∧ Blk wr A (ints .u8 (List.replicate 32 0)) 25 ∧ MsgAt w2.heap.size b' off m wr ∧ Ext w wr) (fun iv _ => 16 - (intOf iv).toNat)
      case atStart => exact ⟨0, by omega, rfl, by rw [wTop, ws_zeros]; exact HZ.out, H2.out, H1.out, HE2.out, HE.out⟩
      case round =>
        clear H1 H2 HE HE2 HZ
        obtain ⟨k, hk, rfl, hbw, hb2, hb1, he2, hbel⟩ := hrel
        have k0 : (0 : Int) ≤ (k : Int) := Int.natCast_nonneg _
        have hwl := wTop_length m (64 * n) k
        by_cases hlk : k < 16
        · have k1 : (k : Int) < 16 := by omega
          have k64 : (k : Int) < 64 := by omega
          obtain ⟨p, hp⟩ : ∃ p : Nat, p = 64 * n + 4 * k := ⟨_, rfl⟩
          have hp1 : 64 * (n : Int) + 4 * (k : Int) = (p : Int) := by omega
          have hN1 : ((64 * N : Nat) : Int) = 64 * (N : Int) := by omega
          have hpm : p + 3 < m.length := by rw [HML.out]; omega
          have hpN : p + 3 < 64 * N := by omega
          have cc : ∀ j, j ≤ 3 → wr.cell? ⟨b', off + (p + j), none⟩ = some (.int .u8 ((m.getD (p + j) 0).toNat : Int)) := fun j hj => by
            exact he2.2.2 (p + j) (by omega)
          have c0 := cc 0 (by omega)
          have c1 := cc 1 (by omega)
          have c2 := cc 2 (by omega)
          have c3 := cc 3 (by omega)
          simp only [Nat.add_zero] at c0
          have d0 := UInt8.toNat_lt (m.getD p 0)
          have d1 := UInt8.toNat_lt (m.getD (p + 1) 0)
          have d2 := UInt8.toNat_lt (m.getD (p + 2) 0)
          have d3 := UInt8.toNat_lt (m.getD (p + 3) 0)
          have HBE : Hid (beW m p = BitVec.ofNat 32 (16777216 * (m.getD p 0).toNat + 65536 * (m.getD (p + 1) 0).toNat + 256 * (m.getD (p + 2) 0).toNat + (m.getD (p + 3) 0).toNat)) := Lib.hid rfl
          generalize (m.getD p 0).toNat = x0 at *
          generalize (m.getD (p + 1) 0).toNat = x1 at *
          generalize (m.getD (p + 2) 0).toNat = x2 at *
          generalize (m.getD (p + 3) 0).toNat = x3 at *
          have e1 := hbw.cell k
          rw [ints_get (by rw [ws_length]; omega)] at e1
          have f1 := hbw.free k
          generalize (ws (wTop m (64 * n) k)).getD k 0 = u at e1
          have p0 : (p : Int) + 3 < 64 * (N : Int) := by omega
          have p1 : (p : Int) < 64 * (N : Int) := by omega
          have p2 : (p : Int) + 1 < 64 * (N : Int) := by omega
          have p3 : (p : Int) + 2 < 64 * (N : Int) := by omega
          have q0 : (0 : Int) ≤ (p : Int) + 1 ∧ (0 : Int) ≤ (p : Int) + 2 ∧ (0 : Int) ≤ (p : Int) + 3 := by omega
          have HST : Hid (wTop m (64 * n) (k + 1) = (wTop m (64 * n) k).set k (beW m p)) := Lib.hid (by rw [hp]; rfl)
          have HWB := Lib.hid hbw
          have H1 := Lib.hid hb1
          have H2 := Lib.hid hb2
          have HE := Lib.hid hbel
          have HE2 := Lib.hid he2
          have HP := Lib.hid hp
          clear hbw hb1 hb2 hbel he2 hwl cc hp hN1
          go_upto_region 11 with (fail)
          clear hp1
          go_region
          go_wp2_with fail
          go_roundw
          case rel =>
            refine ⟨k + 1, by omega, by go_num, ?_, (H2.out.far (by simp <;> omega) _).drewN 1, (H1.out.far (by simp <;> omega) _).drewN 1, (HE2.out.far (by have := HBS.out; simp; omega) _).drew, (Below.setCell HE.out (by simp <;> omega) _).drew⟩
            · rw [HST.out, ← ws_set, HBE.out, ← or4 x0 x1 x2 x3 d0 d1 d2 d3]
              exact (HWB.out.seti k _).drewN 1
          case measure => simp [intOf]; omega
        · have hk16 : k = 16 := by omega
          have hk17 : (k : Int) = 16 := by omega
          rw [hk17]
          clear hk17
          subst hk16
          have hw0 : wTop m (64 * n) 16 = wSch m (64 * n) 0 := rfl
          rw [hw0] at hbw
          have HWB := Lib.hid hbw
          have H1 := Lib.hid hb1
          have H2 := Lib.hid hb2
          have HE := Lib.hid hbel
          have HE2 := Lib.hid he2
          clear hbw hb1 hb2 hbel he2 hwl hw0
          go_wp2_with fail
          obtain ⟨wo, rfl⟩ : ∃ wo : World, wo = wr := ⟨_, rfl⟩
          go_loopw [9] (fun iv wr => ∃ (q : Nat), q ≤ 48 ∧ iv = .int .i64 ((16 + q : Nat) : Int) ∧ Blk wr D (ints .u32 (ws (wSch m (64 * n) q))) 60 ∧ Blk wr (A + 1) (ints .u32 (ws (hRun m n))) 48 ∧ Blk wr A (ints .u8 (List.replicate 32 0)) 25 ∧ MsgAt w2.heap.size b' off m wr ∧ Ext w wr) (fun iv _ => 64 - (intOf iv).toNat)
          case atStart => exact ⟨0, by omega, rfl, HWB.out, H2.out, H1.out, HE2.out, HE.out⟩
          case round =>
            clear H1 H2 HE HE2 HWB
            obtain ⟨q, hq, rfl, hbw, hb2, hb1, he2, hbel⟩ := hrel
            by_cases hlq : q < 48
            · obtain ⟨i, hi⟩ : ∃ i : Nat, i = 16 + q := ⟨_, rfl⟩
              rw [← hi]
              have i0 : (16 : Int) ≤ (i : Int) := by omega
              have i1 : (i : Int) < 64 := by omega
              have hwl := wSch_length m (64 * n) q
              obtain ⟨j16, hj16⟩ : ∃ j : Nat, j = i - 16 := ⟨_, rfl⟩
              obtain ⟨j15, hj15⟩ : ∃ j : Nat, j = i - 15 := ⟨_, rfl⟩
              obtain ⟨j7, hj7⟩ : ∃ j : Nat, j = i - 7 := ⟨_, rfl⟩
              obtain ⟨j2, hj2⟩ : ∃ j : Nat, j = i - 2 := ⟨_, rfl⟩
              have g16 : (i : Int) - 16 = (j16 : Int) := by omega
              have g15 : (i : Int) - 15 = (j15 : Int) := by omega
              have g7 : (i : Int) - 7 = (j7 : Int) := by omega
              have g2 : (i : Int) - 2 = (j2 : Int) := by omega
              have l16 : (j16 : Int) < 64 := by omega
              have l15 : (j15 : Int) < 64 := by omega
              have l7 : (j7 : Int) < 64 := by omega
              have l2 : (j2 : Int) < 64 := by omega
              have e16 := hbw.cell j16
              rw [ints_get (by rw [ws_length]; omega), ws_getD] at e16
              have e15 := hbw.cell j15
              rw [ints_get (by rw [ws_length]; omega), ws_getD] at e15
              have e7 := hbw.cell j7
              rw [ints_get (by rw [ws_length]; omega), ws_getD] at e7
              have e2 := hbw.cell j2
              rw [ints_get (by rw [ws_length]; omega), ws_getD] at e2
              have e0 := hbw.cell i
              rw [ints_get (by rw [ws_length]; omega), ws_getD] at e0
              have f0 := hbw.free i
              have HST : Hid (wSch m (64 * n) (q + 1) = (wSch m (64 * n) q).set i ((wSch m (64 * n) q).getD j16 0#32 + sg0 ((wSch m (64 * n) q).getD j15 0#32) + (wSch m (64 * n) q).getD j7 0#32 + sg1 ((wSch m (64 * n) q).getD j2 0#32))) := Lib.hid (by rw [hi, hj16, hj15, hj7, hj2, hi]; rfl)
              generalize (wSch m (64 * n) q).getD j16 0#32 = y16 at *
              generalize (wSch m (64 * n) q).getD j15 0#32 = y15 at *
              generalize (wSch m (64 * n) q).getD j7 0#32 = y7 at *
              generalize (wSch m (64 * n) q).getD j2 0#32 = y2 at *
              generalize (wSch m (64 * n) q).getD i 0#32 = y0 at *
              have HWB := Lib.hid hbw
              have H1 := Lib.hid hb1
              have H2 := Lib.hid hb2
              have HE := Lib.hid hbel
              have HE2 := Lib.hid he2
              have HI := Lib.hid hi
              clear hbw hb1 hb2 hbel he2 hwl hi hj16 hj15 hj7 hj2 hq
              go_wp2_with fail
              have w16 : IntKind.i64.wrap (j16 : Int) = (j16 : Int) := IntWalk.i64_in _ (by omega)
              have w7 : IntKind.i64.wrap (j7 : Int) = (j7 : Int) := IntWalk.i64_in _ (by omega)
              have z16 : (0 : Int) ≤ (j16 : Int) := Int.natCast_nonneg _
              have z7 : (0 : Int) ≤ (j7 : Int) := Int.natCast_nonneg _
              go_still_tail 29, (by kernel_rfl)
              still_call ((ror_any _ 7 (by omega) _).mono fun _ _ h => ⟨h.1, h.2.symm⟩)
              repeat still_step
              still_call ((ror_any _ 18 (by omega) _).mono fun _ _ h => ⟨h.1, h.2.symm⟩)
              repeat still_step
              still_call ((ror_any _ 17 (by omega) _).mono fun _ _ h => ⟨h.1, h.2.symm⟩)
              repeat still_step
              still_call ((ror_any _ 19 (by omega) _).mono fun _ _ h => ⟨h.1, h.2.symm⟩)
              repeat still_step
              try refine wpStill_nil ?_
              change wpList _ _ _ _ _ wr.drew
              have e0d : (wr.drew).cell? ⟨D, i, none⟩ = some (.int .u32 (wi y0)) := e0
              have f0d : (wr.drew).frozen? ⟨D, i, none⟩ = false := f0
              have HWB : Hid (Blk wr.drew D _ _) := Lib.hid HWB.out
              have H1 : Hid (Blk wr.drew A _ _) := Lib.hid H1.out
              have H2 : Hid (Blk wr.drew (A + 1) _ _) := Lib.hid H2.out
              have HE : Hid (Ext w wr.drew) := Lib.hid (HE.out.trans (Ext.drew wr))
              have HE2 : Hid (MsgAt w2.heap.size b' off m wr.drew) := Lib.hid (HE2.out.ext (Ext.drew wr))
              clear e0 f0
              generalize wr.drew = w4 at *
              have z0 : (0 : Int) ≤ (i : Int) := by omega
              have x1 : bits .xor .u32 (bits .xor .u32 (wi (rotr y15 7)) (wi (rotr y15 18))) (wi y15 / 8) = wi (sg0 y15) := by rw [show (8 : Int) = 2 ^ 3 from rfl, wi_shr, wi_xor, wi_xor]; rfl
              have x2 : bits .xor .u32 (bits .xor .u32 (wi (rotr y2 17)) (wi (rotr y2 19))) (wi y2 / 1024) = wi (sg1 y2) := by rw [show (1024 : Int) = 2 ^ 10 from rfl, wi_shr, wi_xor, wi_xor]; rfl
              have HX1 := Lib.hid x1
              have HX2 := Lib.hid x2
              clear x1 x2 w16 w7 z16 z7
              have HWS : Hid ((wi y16 + wi (sg0 y15) + wi y7 + wi (sg1 y2)) % 4294967296 = wi (y16 + sg0 y15 + y7 + sg1 y2)) := Lib.hid (by rw [← wi_add, ← wi_add, ← wi_add, IntKind.wrap_u32, IntKind.wrap_u32, IntKind.wrap_u32]; omega)
              rw [HX1.out, HX2.out]
              go_wp2_with fail
              go_roundw
              case rel =>
                refine ⟨q + 1, by omega, by have := HI.out; subst this; go_num, ?_, H2.out.far (by simp <;> omega) _, H1.out.far (by simp <;> omega) _, HE2.out.far (by have := HBS.out; simp; omega) _, Below.setCell HE.out (by simp <;> omega) _⟩
                rw [HST.out, ← ws_set, ← HWS.out]
                exact HWB.out.seti i _
              case measure => simp [intOf]; omega
            · have hq48 : q = 48 := by omega
              subst hq48
              have HWB := Lib.hid hbw
              have H1 := Lib.hid hb1
              have H2 := Lib.hid hb2
              have HE := Lib.hid hbel
              have HE2 := Lib.hid he2
              have HHR : Hid (hRun m (n + 1) = hAdd (hRun m n) (vRun (hRun m n) (wSch m (64 * n) 48) 64) 8) := Lib.hid rfl
              have HH8 := Lib.hid (hRun_length m n)
              have HW64 := Lib.hid (wSch_length m (64 * n) 48)
              clear hbw hb2 hb1 he2 hbel
              generalize wSch m (64 * n) 48 = W at *
              generalize hRun m n = h at *
              have HIh : Hid ((Tryd.prog.info? 48).map (·.size) = some (ints .u32 (ws h)).length) := Lib.hid (by rw [ints_length, ws_length, HH8.out]; exact Tryd.arr48)
              have HEZ := Lib.hid (Blk.made wr (ints .u32 (List.replicate 8 0)) 48)
              have HWL := Lib.hid HWB.out.lt
              have H1L := Lib.hid H1.out.lt
              have H2L := Lib.hid H2.out.lt
              have K1 := Lib.hid (H1.out.alloc (.cells (ints .u32 (List.replicate 8 0)).toArray 48))
              have K2 := Lib.hid (H2.out.alloc (.cells (ints .u32 (List.replicate 8 0)).toArray 48))
              have KW := Lib.hid (HWB.out.alloc (.cells (ints .u32 (List.replicate 8 0)).toArray 48))
              have HS := Lib.hid HE.out.size
              have HS2 := Lib.hid HE2.out.2.1
              have KE := Lib.hid (HE.out.trans (Ext.alloc wr (.cells (ints .u32 (List.replicate 8 0)).toArray 48)))
              have KE2 := Lib.hid (HE2.out.ext (Ext.alloc wr (.cells (ints .u32 (List.replicate 8 0)).toArray 48)))
              have HLh : Hid ((ints .u32 (ws h)).length = (ints .u32 (List.replicate 8 0)).length) := Lib.hid (by rw [ints_length, ws_length, HH8.out, ints_length, List.length_replicate])
              go_upto_region 19 with (first | (refine wpList_load_blk rfl _ _ rfl (A + 1) rfl _ _ _ _ H2.out Tryd.underlying48 HIh.out ?_) | (refine wpList_store_blk rfl _ _ _ rfl wr.heap.size (ints .u32 (ws h)) rfl rfl _ _ HEZ.out HLh.out HIh.out (ints_one _ _) ?_; intro wq hbq hgq))
              have H1 := Lib.hid (K1.out.grown hgq (by have := H1L.out; simp; omega))
              have H2 := Lib.hid (K2.out.grown hgq (by have := H2L.out; simp; omega))
              have HWB := Lib.hid (KW.out.grown hgq (by have := HWL.out; simp; omega))
              have HE := Lib.hid (ext_grown KE.out hgq HS.out)
              have HE2 := Lib.hid (KE2.out.grown hgq (by have := HBS.out; have := HS2.out; simp; omega))
              have HVB := Lib.hid hbq
              have HDE : Hid (D < wr.heap.size) := HWL
              have HAE : Hid (A + 1 < wr.heap.size) := H2L
              generalize wr.heap.size = E at *
              clear hbq hgq HEZ H1L H2L K1 K2 KW KE KE2 HLh HS
              go_wp2_with fail
              obtain ⟨wo, rfl⟩ : ∃ wo : World, wo = wq := ⟨_, rfl⟩
              go_loopw [13] (fun iv wr => ∃ (k : Nat), k ≤ 64 ∧ iv = .int .i64 (k : Int) ∧ Blk wr E (ints .u32 (ws (vRun h W k))) 48 ∧ Blk wr D (ints .u32 (ws W)) 60 ∧ Blk wr (A + 1) (ints .u32 (ws h)) 48 ∧ Blk wr A (ints .u8 (List.replicate 32 0)) 25 ∧ MsgAt w2.heap.size b' off m wr ∧ Ext w wr) (fun iv _ => 64 - (intOf iv).toNat)
              case atStart => exact ⟨0, by omega, rfl, HVB.out, HWB.out, H2.out, H1.out, HE2.out, HE.out⟩
              case round =>
                clear HVB HWB H1 H2 HE HE2
                obtain ⟨k, hk, rfl, hbv, hbw, hb2, hb1, he2, hbel⟩ := hrel
                have HVB := Lib.hid hbv
                have HWB := Lib.hid hbw
                have H1 := Lib.hid hb1
                have H2 := Lib.hid hb2
                have HE := Lib.hid hbel
                have HE2 := Lib.hid he2
                have HVL := Lib.hid (vRun_length h W HH8.out k)
                have k0 : (0 : Int) ≤ (k : Int) := Int.natCast_nonneg _
                clear hbv hbw hb2 hb1 he2 hbel
                by_cases hlr : k < 64
                · have kr : (k : Int) < 64 := by omega
                  have HWK : Hid (∀ w', Blk w' D (ints .u32 (ws W)) 60 → w'.cell? ⟨D, k, none⟩ = some (.int .u32 (wi (W.getD k 0#32)))) := Lib.hid (fun w' h => blk_w h (by rw [HW64.out]; exact hlr))
                  have HKK : Hid (∀ w', Ext wr w' → w'.cell? ⟨0, k, none⟩ = some (.int .u32 (wi (K256.getD k 0#32)))) := Lib.hid (fun w' h => (HG.out.ext (HE.out.trans h)).cell hlr)
                  have HRN : Hid (vRun h W (k + 1) = rnd (vRun h W k) (K256.getD k 0#32) (W.getD k 0#32)) := Lib.hid rfl
                  unfold rnd at HRN
                  generalize K256.getD k 0#32 = kk at *
                  generalize W.getD k 0#32 = wk at *
                  generalize vRun h W k = vv at *
                  have HVC : Hid (∀ j, j < 8 → ∀ w', Blk w' E (ints .u32 (ws vv)) 48 → ∀ x, x = vv.getD j 0#32 → w'.cell? ⟨E, j, none⟩ = some (.int .u32 (wi x))) := Lib.hid (fun j hj w' hb x hx => by rw [hx]; exact blk_w hb (by rw [HVL.out]; exact hj))
                  have hvb := HVB.out
                  have b0 := blk_w hvb (j := 0) (by rw [HVL.out]; omega)
                  have b1 := blk_w hvb (j := 1) (by rw [HVL.out]; omega)
                  have b2 := blk_w hvb (j := 2) (by rw [HVL.out]; omega)
                  have b3 := blk_w hvb (j := 3) (by rw [HVL.out]; omega)
                  have b4 := blk_w hvb (j := 4) (by rw [HVL.out]; omega)
                  have b5 := blk_w hvb (j := 5) (by rw [HVL.out]; omega)
                  have b6 := blk_w hvb (j := 6) (by rw [HVL.out]; omega)
                  have b7 := blk_w hvb (j := 7) (by rw [HVL.out]; omega)
                  obtain ⟨v0, hv0⟩ : ∃ x, x = vv.getD 0 0#32 := ⟨_, rfl⟩
                  have HVE0 := Lib.hid hv0
                  rw [← hv0] at b0 HRN
                  clear hv0
                  obtain ⟨v1, hv1⟩ : ∃ x, x = vv.getD 1 0#32 := ⟨_, rfl⟩
                  have HVE1 := Lib.hid hv1
                  rw [← hv1] at b1 HRN
                  clear hv1
                  obtain ⟨v2, hv2⟩ : ∃ x, x = vv.getD 2 0#32 := ⟨_, rfl⟩
                  have HVE2 := Lib.hid hv2
                  rw [← hv2] at b2 HRN
                  clear hv2
                  obtain ⟨v3, hv3⟩ : ∃ x, x = vv.getD 3 0#32 := ⟨_, rfl⟩
                  have HVE3 := Lib.hid hv3
                  rw [← hv3] at b3 HRN
                  clear hv3
                  obtain ⟨v4, hv4⟩ : ∃ x, x = vv.getD 4 0#32 := ⟨_, rfl⟩
                  have HVE4 := Lib.hid hv4
                  rw [← hv4] at b4 HRN
                  clear hv4
                  obtain ⟨v5, hv5⟩ : ∃ x, x = vv.getD 5 0#32 := ⟨_, rfl⟩
                  have HVE5 := Lib.hid hv5
                  rw [← hv5] at b5 HRN
                  clear hv5
                  obtain ⟨v6, hv6⟩ : ∃ x, x = vv.getD 6 0#32 := ⟨_, rfl⟩
                  have HVE6 := Lib.hid hv6
                  rw [← hv6] at b6 HRN
                  clear hv6
                  obtain ⟨v7, hv7⟩ : ∃ x, x = vv.getD 7 0#32 := ⟨_, rfl⟩
                  have HVE7 := Lib.hid hv7
                  rw [← hv7] at b7 HRN
                  clear hv7
                  clear hvb
                  go_wp2_with fail
                  refine wp_region_all (by kernel_rfl) (by kernel_rfl) ?_
                  refine det_index _ _ _ _ E 8 7 (by rfl) rfl rfl rfl Tryd.underlying48 (by omega) (Tryd.sizeOf47) ?_
                  simp only [Act.put, List.setIfInBounds_toArray, List.set_cons_zero, List.set_cons_succ]
                  refine det_cell _ _ E 7 (.int .u32 (wi v7)) (by rfl) rfl rfl (fun w hw => HVC.out 7 (by omega) _ (ext_blk HVB.out hw) _ HVE7.out) (Tryd.isAgg47) ?_
                  simp only [Act.put, List.setIfInBounds_toArray, List.set_cons_zero, List.set_cons_succ]
                  refine det_move _ (.int .u32 (wi v4)) (by rfl) rfl rfl ?_
                  simp only [Act.put, List.setIfInBounds_toArray, List.set_cons_zero, List.set_cons_succ]
                  refine det_call _ _ _ [.int .u32 (wi v4), .int .u64 6] (.int .u32 (wi (rotr v4 6))) (by rfl) rfl Tryd.call30 rfl (fun w hw => ror_ext v4 6 (by omega) w) ?_
                  simp only [Act.put, List.setIfInBounds_toArray, List.set_cons_zero, List.set_cons_succ]
                  refine det_move _ (.int .u32 (wi v4)) (by rfl) rfl rfl ?_
                  simp only [Act.put, List.setIfInBounds_toArray, List.set_cons_zero, List.set_cons_succ]
                  refine det_call _ _ _ [.int .u32 (wi v4), .int .u64 11] (.int .u32 (wi (rotr v4 11))) (by rfl) rfl Tryd.call30 rfl (fun w hw => ror_ext v4 11 (by omega) w) ?_
                  simp only [Act.put, List.setIfInBounds_toArray, List.set_cons_zero, List.set_cons_succ]
                  refine det_xor _ _ _ _ _ _ _ (wi ((rotr v4 6) ^^^ (rotr v4 11))) (by rfl) rfl rfl rfl (wi_xor _ _) ?_
                  simp only [Act.put, List.setIfInBounds_toArray, List.set_cons_zero, List.set_cons_succ]
                  refine det_move _ (.int .u32 (wi v4)) (by rfl) rfl rfl ?_
                  simp only [Act.put, List.setIfInBounds_toArray, List.set_cons_zero, List.set_cons_succ]
                  refine det_call _ _ _ [.int .u32 (wi v4), .int .u64 25] (.int .u32 (wi (rotr v4 25))) (by rfl) rfl Tryd.call30 rfl (fun w hw => ror_ext v4 25 (by omega) w) ?_
                  simp only [Act.put, List.setIfInBounds_toArray, List.set_cons_zero, List.set_cons_succ]
                  refine det_xor _ _ _ _ _ _ _ (wi (((rotr v4 6) ^^^ (rotr v4 11)) ^^^ (rotr v4 25))) (by rfl) rfl rfl rfl (wi_xor _ _) ?_
                  simp only [Act.put, List.setIfInBounds_toArray, List.set_cons_zero, List.set_cons_succ]
                  refine det_add _ _ _ _ _ _ _ (wi (v7 + (((rotr v4 6) ^^^ (rotr v4 11)) ^^^ (rotr v4 25)))) (by rfl) rfl rfl rfl (wi_add _ _) ?_
                  simp only [Act.put, List.setIfInBounds_toArray, List.set_cons_zero, List.set_cons_succ]
                  refine det_move _ (.int .u32 (wi v4)) (by rfl) rfl rfl ?_
                  simp only [Act.put, List.setIfInBounds_toArray, List.set_cons_zero, List.set_cons_succ]
                  refine det_index _ _ _ _ E 8 5 (by rfl) rfl rfl rfl Tryd.underlying48 (by omega) (Tryd.sizeOf47) ?_
                  simp only [Act.put, List.setIfInBounds_toArray, List.set_cons_zero, List.set_cons_succ]
                  refine det_cell _ _ E 5 (.int .u32 (wi v5)) (by rfl) rfl rfl (fun w hw => HVC.out 5 (by omega) _ (ext_blk HVB.out hw) _ HVE5.out) (Tryd.isAgg47) ?_
                  simp only [Act.put, List.setIfInBounds_toArray, List.set_cons_zero, List.set_cons_succ]
                  refine det_and _ _ _ _ _ _ _ (wi (v4 &&& v5)) (by rfl) rfl rfl rfl (wi_and _ _) ?_
                  simp only [Act.put, List.setIfInBounds_toArray, List.set_cons_zero, List.set_cons_succ]
                  refine det_move _ (.int .u32 (wi v4)) (by rfl) rfl rfl ?_
                  simp only [Act.put, List.setIfInBounds_toArray, List.set_cons_zero, List.set_cons_succ]
                  refine det_winot _ _ v4 (by rfl) rfl rfl ?_
                  simp only [Act.put, List.setIfInBounds_toArray, List.set_cons_zero, List.set_cons_succ]
                  refine det_index _ _ _ _ E 8 6 (by rfl) rfl rfl rfl Tryd.underlying48 (by omega) (Tryd.sizeOf47) ?_
                  simp only [Act.put, List.setIfInBounds_toArray, List.set_cons_zero, List.set_cons_succ]
                  refine det_cell _ _ E 6 (.int .u32 (wi v6)) (by rfl) rfl rfl (fun w hw => HVC.out 6 (by omega) _ (ext_blk HVB.out hw) _ HVE6.out) (Tryd.isAgg47) ?_
                  simp only [Act.put, List.setIfInBounds_toArray, List.set_cons_zero, List.set_cons_succ]
                  refine det_and _ _ _ _ _ _ _ (wi ((~~~v4) &&& v6)) (by rfl) rfl rfl rfl (wi_and _ _) ?_
                  simp only [Act.put, List.setIfInBounds_toArray, List.set_cons_zero, List.set_cons_succ]
                  refine det_xor _ _ _ _ _ _ _ (wi ((v4 &&& v5) ^^^ ((~~~v4) &&& v6))) (by rfl) rfl rfl rfl (wi_xor _ _) ?_
                  simp only [Act.put, List.setIfInBounds_toArray, List.set_cons_zero, List.set_cons_succ]
                  refine det_add _ _ _ _ _ _ _ (wi ((v7 + (((rotr v4 6) ^^^ (rotr v4 11)) ^^^ (rotr v4 25))) + ((v4 &&& v5) ^^^ ((~~~v4) &&& v6)))) (by rfl) rfl rfl rfl (wi_add _ _) ?_
                  simp only [Act.put, List.setIfInBounds_toArray, List.set_cons_zero, List.set_cons_succ]
                  refine det_move _ (.int .i64 ((k : Nat) : Int)) (by rfl) rfl rfl ?_
                  simp only [Act.put, List.setIfInBounds_toArray, List.set_cons_zero, List.set_cons_succ]
                  refine det_index _ _ _ _ 0 64 k (by rfl) rfl rfl rfl Tryd.underlying60 (by omega) (Tryd.sizeOf47) ?_
                  simp only [Act.put, List.setIfInBounds_toArray, List.set_cons_zero, List.set_cons_succ]
                  refine det_cell _ _ 0 k (.int .u32 (wi kk)) (by rfl) rfl rfl (fun w hw => HKK.out _ hw) (Tryd.isAgg47) ?_
                  simp only [Act.put, List.setIfInBounds_toArray, List.set_cons_zero, List.set_cons_succ]
                  refine det_add _ _ _ _ _ _ _ (wi (((v7 + (((rotr v4 6) ^^^ (rotr v4 11)) ^^^ (rotr v4 25))) + ((v4 &&& v5) ^^^ ((~~~v4) &&& v6))) + kk)) (by rfl) rfl rfl rfl (wi_add _ _) ?_
                  simp only [Act.put, List.setIfInBounds_toArray, List.set_cons_zero, List.set_cons_succ]
                  refine det_move _ (.int .i64 ((k : Nat) : Int)) (by rfl) rfl rfl ?_
                  simp only [Act.put, List.setIfInBounds_toArray, List.set_cons_zero, List.set_cons_succ]
                  refine det_index _ _ _ _ D 64 k (by rfl) rfl rfl rfl Tryd.underlying60 (by omega) (Tryd.sizeOf47) ?_
                  simp only [Act.put, List.setIfInBounds_toArray, List.set_cons_zero, List.set_cons_succ]
                  refine det_cell _ _ D k (.int .u32 (wi wk)) (by rfl) rfl rfl (fun w hw => HWK.out _ (ext_blk HWB.out hw)) (Tryd.isAgg47) ?_
                  simp only [Act.put, List.setIfInBounds_toArray, List.set_cons_zero, List.set_cons_succ]
                  refine det_add _ _ _ _ _ _ _ (wi ((((v7 + (((rotr v4 6) ^^^ (rotr v4 11)) ^^^ (rotr v4 25))) + ((v4 &&& v5) ^^^ ((~~~v4) &&& v6))) + kk) + wk)) (by rfl) rfl rfl rfl (wi_add _ _) ?_
                  simp only [Act.put, List.setIfInBounds_toArray, List.set_cons_zero, List.set_cons_succ]
                  refine det_assign _ (.int .u32 (wi ((((v7 + (((rotr v4 6) ^^^ (rotr v4 11)) ^^^ (rotr v4 25))) + ((v4 &&& v5) ^^^ ((~~~v4) &&& v6))) + kk) + wk))) (by rfl) rfl rfl ?_
                  simp only [Act.put, List.setIfInBounds_toArray, List.set_cons_zero, List.set_cons_succ]
                  refine det_nil (fun wx hx => ?_)
                  have HVB := Lib.hid (ext_blk HVB.out hx)
                  have HWB := Lib.hid (ext_blk HWB.out hx)
                  have H1 := Lib.hid (ext_blk H1.out hx)
                  have H2 := Lib.hid (ext_blk H2.out hx)
                  have HE2 := Lib.hid (HE2.out.ext hx)
                  have HE := Lib.hid (HE.out.trans hx)
                  clear hx
                  generalize ht : (((v7 + (((rotr v4 6) ^^^ (rotr v4 11)) ^^^ (rotr v4 25))) + ((v4 &&& v5) ^^^ ((~~~v4) &&& v6))) + kk) + wk = t at *
                  have HT := Lib.hid ht
                  clear ht
                  go_wp2_with fail
                  refine wp_region_all (by kernel_rfl) (by kernel_rfl) ?_
                  refine det_move _ (.int .u32 (wi v0)) (by rfl) rfl rfl ?_
                  simp only [Act.put, List.setIfInBounds_toArray, List.set_cons_zero, List.set_cons_succ]
                  refine det_call _ _ _ [.int .u32 (wi v0), .int .u64 2] (.int .u32 (wi (rotr v0 2))) (by rfl) rfl Tryd.call30 rfl (fun w hw => ror_ext v0 2 (by omega) w) ?_
                  simp only [Act.put, List.setIfInBounds_toArray, List.set_cons_zero, List.set_cons_succ]
                  refine det_move _ (.int .u32 (wi v0)) (by rfl) rfl rfl ?_
                  simp only [Act.put, List.setIfInBounds_toArray, List.set_cons_zero, List.set_cons_succ]
                  refine det_call _ _ _ [.int .u32 (wi v0), .int .u64 13] (.int .u32 (wi (rotr v0 13))) (by rfl) rfl Tryd.call30 rfl (fun w hw => ror_ext v0 13 (by omega) w) ?_
                  simp only [Act.put, List.setIfInBounds_toArray, List.set_cons_zero, List.set_cons_succ]
                  refine det_xor _ _ _ _ _ _ _ (wi ((rotr v0 2) ^^^ (rotr v0 13))) (by rfl) rfl rfl rfl (wi_xor _ _) ?_
                  simp only [Act.put, List.setIfInBounds_toArray, List.set_cons_zero, List.set_cons_succ]
                  refine det_move _ (.int .u32 (wi v0)) (by rfl) rfl rfl ?_
                  simp only [Act.put, List.setIfInBounds_toArray, List.set_cons_zero, List.set_cons_succ]
                  refine det_call _ _ _ [.int .u32 (wi v0), .int .u64 22] (.int .u32 (wi (rotr v0 22))) (by rfl) rfl Tryd.call30 rfl (fun w hw => ror_ext v0 22 (by omega) w) ?_
                  simp only [Act.put, List.setIfInBounds_toArray, List.set_cons_zero, List.set_cons_succ]
                  refine det_xor _ _ _ _ _ _ _ (wi (((rotr v0 2) ^^^ (rotr v0 13)) ^^^ (rotr v0 22))) (by rfl) rfl rfl rfl (wi_xor _ _) ?_
                  simp only [Act.put, List.setIfInBounds_toArray, List.set_cons_zero, List.set_cons_succ]
                  refine det_move _ (.int .u32 (wi v0)) (by rfl) rfl rfl ?_
                  simp only [Act.put, List.setIfInBounds_toArray, List.set_cons_zero, List.set_cons_succ]
                  refine det_index _ _ _ _ E 8 1 (by rfl) rfl rfl rfl Tryd.underlying48 (by omega) (Tryd.sizeOf47) ?_
                  simp only [Act.put, List.setIfInBounds_toArray, List.set_cons_zero, List.set_cons_succ]
                  refine det_cell _ _ E 1 (.int .u32 (wi v1)) (by rfl) rfl rfl (fun w hw => HVC.out 1 (by omega) _ (ext_blk HVB.out hw) _ HVE1.out) (Tryd.isAgg47) ?_
                  simp only [Act.put, List.setIfInBounds_toArray, List.set_cons_zero, List.set_cons_succ]
                  refine det_and _ _ _ _ _ _ _ (wi (v0 &&& v1)) (by rfl) rfl rfl rfl (wi_and _ _) ?_
                  simp only [Act.put, List.setIfInBounds_toArray, List.set_cons_zero, List.set_cons_succ]
                  refine det_move _ (.int .u32 (wi v0)) (by rfl) rfl rfl ?_
                  simp only [Act.put, List.setIfInBounds_toArray, List.set_cons_zero, List.set_cons_succ]
                  refine det_index _ _ _ _ E 8 2 (by rfl) rfl rfl rfl Tryd.underlying48 (by omega) (Tryd.sizeOf47) ?_
                  simp only [Act.put, List.setIfInBounds_toArray, List.set_cons_zero, List.set_cons_succ]
                  refine det_cell _ _ E 2 (.int .u32 (wi v2)) (by rfl) rfl rfl (fun w hw => HVC.out 2 (by omega) _ (ext_blk HVB.out hw) _ HVE2.out) (Tryd.isAgg47) ?_
                  simp only [Act.put, List.setIfInBounds_toArray, List.set_cons_zero, List.set_cons_succ]
                  refine det_and _ _ _ _ _ _ _ (wi (v0 &&& v2)) (by rfl) rfl rfl rfl (wi_and _ _) ?_
                  simp only [Act.put, List.setIfInBounds_toArray, List.set_cons_zero, List.set_cons_succ]
                  refine det_xor _ _ _ _ _ _ _ (wi ((v0 &&& v1) ^^^ (v0 &&& v2))) (by rfl) rfl rfl rfl (wi_xor _ _) ?_
                  simp only [Act.put, List.setIfInBounds_toArray, List.set_cons_zero, List.set_cons_succ]
                  refine det_index _ _ _ _ E 8 1 (by rfl) rfl rfl rfl Tryd.underlying48 (by omega) (Tryd.sizeOf47) ?_
                  simp only [Act.put, List.setIfInBounds_toArray, List.set_cons_zero, List.set_cons_succ]
                  refine det_cell _ _ E 1 (.int .u32 (wi v1)) (by rfl) rfl rfl (fun w hw => HVC.out 1 (by omega) _ (ext_blk HVB.out hw) _ HVE1.out) (Tryd.isAgg47) ?_
                  simp only [Act.put, List.setIfInBounds_toArray, List.set_cons_zero, List.set_cons_succ]
                  refine det_index _ _ _ _ E 8 2 (by rfl) rfl rfl rfl Tryd.underlying48 (by omega) (Tryd.sizeOf47) ?_
                  simp only [Act.put, List.setIfInBounds_toArray, List.set_cons_zero, List.set_cons_succ]
                  refine det_cell _ _ E 2 (.int .u32 (wi v2)) (by rfl) rfl rfl (fun w hw => HVC.out 2 (by omega) _ (ext_blk HVB.out hw) _ HVE2.out) (Tryd.isAgg47) ?_
                  simp only [Act.put, List.setIfInBounds_toArray, List.set_cons_zero, List.set_cons_succ]
                  refine det_and _ _ _ _ _ _ _ (wi (v1 &&& v2)) (by rfl) rfl rfl rfl (wi_and _ _) ?_
                  simp only [Act.put, List.setIfInBounds_toArray, List.set_cons_zero, List.set_cons_succ]
                  refine det_xor _ _ _ _ _ _ _ (wi (((v0 &&& v1) ^^^ (v0 &&& v2)) ^^^ (v1 &&& v2))) (by rfl) rfl rfl rfl (wi_xor _ _) ?_
                  simp only [Act.put, List.setIfInBounds_toArray, List.set_cons_zero, List.set_cons_succ]
                  refine det_add _ _ _ _ _ _ _ (wi ((((rotr v0 2) ^^^ (rotr v0 13)) ^^^ (rotr v0 22)) + (((v0 &&& v1) ^^^ (v0 &&& v2)) ^^^ (v1 &&& v2)))) (by rfl) rfl rfl rfl (wi_add _ _) ?_
                  simp only [Act.put, List.setIfInBounds_toArray, List.set_cons_zero, List.set_cons_succ]
                  refine det_assign _ (.int .u32 (wi ((((rotr v0 2) ^^^ (rotr v0 13)) ^^^ (rotr v0 22)) + (((v0 &&& v1) ^^^ (v0 &&& v2)) ^^^ (v1 &&& v2))))) (by rfl) rfl rfl ?_
                  simp only [Act.put, List.setIfInBounds_toArray, List.set_cons_zero, List.set_cons_succ]
                  refine det_nil (fun wy hy => ?_)
                  have HVB := Lib.hid (ext_blk HVB.out hy)
                  have HWB := Lib.hid (ext_blk HWB.out hy)
                  have H1 := Lib.hid (ext_blk H1.out hy)
                  have H2 := Lib.hid (ext_blk H2.out hy)
                  have HE2 := Lib.hid (HE2.out.ext hy)
                  have HE := Lib.hid (HE.out.trans hy)
                  clear hy
                  generalize hu : (((rotr v0 2) ^^^ (rotr v0 13)) ^^^ (rotr v0 22)) + (((v0 &&& v1) ^^^ (v0 &&& v2)) ^^^ (v1 &&& v2)) = u at *
                  have HU := Lib.hid hu
                  clear hu
                  clear b0 b1 b2 b3 b4 b5 b6 b7
                  have b1 := HVC.out 1 (by omega) _ HVB.out _ HVE1.out
                  have b2 := HVC.out 2 (by omega) _ HVB.out _ HVE2.out
                  have b3 := HVC.out 3 (by omega) _ HVB.out _ HVE3.out
                  have b5 := HVC.out 5 (by omega) _ HVB.out _ HVE5.out
                  have b6 := HVC.out 6 (by omega) _ HVB.out _ HVE6.out
                  have q7 : (wi t + wi u) % 4294967296 = wi (t + u) := by rw [← wi_add, IntKind.wrap_u32]
                  have q8 : (wi v3 + wi t) % 4294967296 = wi (v3 + t) := by rw [← wi_add, IntKind.wrap_u32]
                  have HVN : Hid (vRun h W (k + 1) = [t + u, v0, v1, v2, v3 + t, v4, v5, v6]) := Lib.hid (by rw [HRN.out, ← HT.out, ← HU.out])
                  clear HRN
                  have HLn : Hid ((ints .u32 (ws [t + u, v0, v1, v2, v3 + t, v4, v5, v6])).length = (ints .u32 (ws vv)).length) := Lib.hid (by rw [ints_length, ws_length, ints_length, ws_length, HVL.out]; rfl)
                  have HIn : Hid ((Tryd.prog.info? 48).map (·.size) = some (ints .u32 (ws [t + u, v0, v1, v2, v3 + t, v4, v5, v6])).length) := Lib.hid Tryd.arr48
                  go_wp2_with (refine wpList_store_blk rfl _ _ _ rfl E (ints .u32 (ws [t + u, v0, v1, v2, v3 + t, v4, v5, v6])) rfl rfl _ _ HVB.out HLn.out HIn.out (ints_one _ _) ?_; intro wz hbz hgz)
                  go_roundw
                  case rel => exact ⟨k + 1, by omega, by go_num, by rw [HVN.out]; exact hbz, HWB.out.grown hgz (by have := HDE.out; simp; omega), H2.out.grown hgz (by have := HAE.out; simp; omega), H1.out.grown hgz (by have := HAE.out; simp; omega), HE2.out.grown hgz (by have := HBS.out; have := HS2.out; simp; omega), ext_grown HE.out hgz (by have := HAE.out; omega)⟩
                  case measure => simp [intOf]; omega
                · have hk64 : k = 64 := by omega
                  have hk65 : (k : Int) = 64 := by omega
                  rw [hk65]
                  clear hk65
                  subst hk64
                  generalize vRun h W 64 = vv at *
                  go_wp2_with fail
                  obtain ⟨wo2, rfl⟩ : ∃ wo : World, wo = wr := ⟨_, rfl⟩
                  go_loopw [18] (fun iv wr => ∃ (j : Nat), j ≤ 8 ∧ iv = .int .i64 (j : Int) ∧ Blk wr E (ints .u32 (ws vv)) 48 ∧ Blk wr (A + 1) (ints .u32 (ws (hAdd h vv j))) 48 ∧ Blk wr A (ints .u8 (List.replicate 32 0)) 25 ∧ MsgAt w2.heap.size b' off m wr ∧ Ext w wr) (fun iv _ => 8 - (intOf iv).toNat)
                  case atStart => exact ⟨0, by omega, rfl, HVB.out, H2.out, H1.out, HE2.out, HE.out⟩
                  case round =>
                    clear HVB H2 H1 HE2 HE
                    obtain ⟨j, hj, rfl, hbv, hb2, hb1, he2, hbel⟩ := hrel
                    have j0 : (0 : Int) ≤ (j : Int) := Int.natCast_nonneg _
                    by_cases hj8 : j < 8
                    · have j1 : (j : Int) < 8 := by omega
                      have e1 := blk_w hb2 (j := j) (by rw [hAdd_length, HH8.out]; exact hj8)
                      have e2 := blk_w hbv (j := j) (by rw [HVL.out]; exact hj8)
                      have f1 := hb2.free j
                      have HST : Hid (ws (hAdd h vv (j + 1)) = (ws (hAdd h vv j)).set j (wi ((hAdd h vv j).getD j 0#32 + vv.getD j 0#32))) := Lib.hid (by rw [ws_set, hAdd])
                      generalize (hAdd h vv j).getD j 0#32 = p1 at *
                      generalize vv.getD j 0#32 = p2 at *
                      have q1 : (wi p1 + wi p2) % 4294967296 = wi (p1 + p2) := by rw [← wi_add, IntKind.wrap_u32]
                      have HQ1 := Lib.hid q1
                      have HVB := Lib.hid hbv
                      have H1 := Lib.hid hb1
                      have H2 := Lib.hid hb2
                      have HE := Lib.hid hbel
                      have HE2 := Lib.hid he2
                      clear hbv hb1 hb2 hbel he2 q1
                      go_wp2_with fail
                      go_region
                      go_wp2_with fail
                      go_roundw
                      case rel =>
                        refine ⟨j + 1, by omega, by go_num, (HVB.out.far (by have := HAE.out; simp; omega) _).drewN 1, ?_, (H1.out.far (by simp <;> omega) _).drewN 1, (HE2.out.far (by have := HBA.out; simp; omega) _).drew, (Below.setCell HE.out (by simp <;> omega) _).drew⟩
                        rw [HST.out, ← HQ1.out]
                        exact (H2.out.seti j _).drewN 1
                      case measure => simp [intOf]; omega
                    · have hj9 : j = 8 := by omega
                      subst hj9
                      rw [← HHR.out] at hb2
                      have H1 := Lib.hid hb1
                      have H2 := Lib.hid hb2
                      have HE := Lib.hid hbel
                      have HE2 := Lib.hid he2
                      clear hbv hb1 hb2 hbel he2
                      go_wp2_with fail
                      go_roundw
                      case rel => exact ⟨n + 1, by omega, by rw [show 64 * (n : Int) + 64 = 64 * ((n + 1 : Nat) : Int) from by omega], H2.out, H1.out, HE2.out, HE.out⟩
                      case measure => simp [intOf]; omega
    · have hnN : n = N := by omega
      have hnN2 : (64 : Int) * (n : Int) = 64 * (N : Int) := by omega
      rw [hnN2]
      clear hnN2
      have HRR : Hid (outB (hRun m N) = sha256 b) := Lib.hid (by rw [HM.out, HN.out]; rfl)
      subst hnN
      have HR8 := Lib.hid (hRun_length m n)
      generalize hRun m n = R at *
      have HFZ := Lib.hid (Blk.made wr (ints .u8 (List.replicate 32 0)) 25)
      have H1L := Lib.hid hb1.lt
      have H2L := Lib.hid hb2.lt
      have K1 := Lib.hid (hb1.alloc (.cells (ints .u8 (List.replicate 32 0)).toArray 25))
      have K2 := Lib.hid (hb2.alloc (.cells (ints .u8 (List.replicate 32 0)).toArray 25))
      have HS := Lib.hid hbel.size
      have KE := Lib.hid (hbel.trans (Ext.alloc wr (.cells (ints .u8 (List.replicate 32 0)).toArray 25)))
      clear hb1 hb2 hbel he2
      go_upto_region 32 with (fail)
      change Code.wp _ _ _ _ (wr.alloc (.cells (ints .u8 (List.replicate 32 0)).toArray 25))
      generalize wr.alloc (.cells (ints .u8 (List.replicate 32 0)).toArray 25) = wf at *
      have HAF : Hid (A + 1 < wr.heap.size) := H2L
      generalize wr.heap.size = F at *
      obtain ⟨o, ho⟩ : ∃ o, o = outB R := ⟨_, rfl⟩
      have HOL : Hid (o.length = 32) := Lib.hid (by rw [ho, outB_length])
      have HOO := Lib.hid ho
      have HOS : Hid (o = sha256 b) := Lib.hid (by rw [ho]; exact HRR.out)
      clear ho HRR H1L H2L
      go_wp2_with fail
      go_loopw [20] (fun iv wr => ∃ (j : Nat), j ≤ 32 ∧ iv = .int .i64 (j : Int) ∧ Blk wr F ((fill 32 o j).map bval) 25 ∧ Blk wr (A + 1) (ints .u32 (ws R)) 48 ∧ Blk wr A (ints .u8 (List.replicate 32 0)) 25 ∧ Ext w wr) (fun iv _ => 32 - (intOf iv).toNat)
      case atStart => exact ⟨0, by omega, rfl, by rw [fill_start]; exact HFZ.out, K2.out, K1.out, KE.out⟩
      case round =>
        clear HFZ K2 K1 KE
        obtain ⟨j, hj, rfl, hbf, hb2, hb1, hbel⟩ := hrel
        have j0 : (0 : Int) ≤ (j : Int) := Int.natCast_nonneg _
        by_cases hj32 : j < 32
        · have j1 : (j : Int) < 32 := by omega
          obtain ⟨q, hq⟩ : ∃ q : Nat, q = j / 4 := ⟨_, rfl⟩
          obtain ⟨r, hr⟩ : ∃ r : Nat, r = j % 4 := ⟨_, rfl⟩
          obtain ⟨s, hs⟩ : ∃ s : Nat, s = 24 - 8 * r := ⟨_, rfl⟩
          have hq1 : (j : Int) / 4 = (q : Int) := by omega
          have hr1 : (j : Int) % 4 = (r : Int) := by omega
          have hs1 : 24 - 8 * (r : Int) = (s : Int) := by omega
          have hq8 : (q : Int) < 8 := by omega
          have q0 : (0 : Int) ≤ (q : Int) := Int.natCast_nonneg _
          have r0 : (0 : Int) ≤ (r : Int) := Int.natCast_nonneg _
          have r4 : (r : Int) < 4 := by omega
          have s0 : (0 : Int) ≤ (s : Int) := Int.natCast_nonneg _
          have s25 : (s : Int) ≤ 24 := by omega
          have e1 := blk_w hb2 (j := q) (by rw [HR8.out]; omega)
          have hof := outB_getD R j hj32
          rw [← hq, ← hr, ← hs, ← HOO.out] at hof
          generalize R.getD q 0#32 = x at *
          have hxr := wi_range x
          have e2 := hbf.cell j
          rw [bval_get (by rw [fill_length HOL.out (by omega)]; exact hj32)] at e2
          have f2 := hbf.free j
          have HFS : ∀ z : Int, z = ((o.getD j 0).toNat : Int) → _ := fun z hz => fill_set_val HOL.out hj32 hz
          have HFS := Lib.hid HFS
          have hza : bits .and .u32 (wi x / 2 ^ s) 255 % 256 = ((o.getD j 0).toNat : Int) := by
            rw [hof, UInt8.toNat_ofNat', wi_shr, and_u32_255]
            rw [BitVec.toNat_ushiftRight, Nat.shiftRight_eq_div_pow]
            omega
          have HZA := Lib.hid hza
          have HF := Lib.hid hbf
          have H1 := Lib.hid hb1
          have H2 := Lib.hid hb2
          have HE := Lib.hid hbel
          clear hbf hb1 hb2 hbel hof hza hq hr hs
          generalize ((fill 32 o j).getD j 0) = z2 at *
          generalize wi x = zx at *
          go_wp2_with fail
          go_roundw
          case rel =>
            refine ⟨j + 1, by omega, by go_num, ?_, H2.out.far (by have := HAF.out; simp; omega) _, H1.out.far (by have := HAF.out; simp; omega) _, Below.setCell HE.out (by have := HAF.out; simp; omega) _⟩
            rw [← HFS.out _ HZA.out]
            exact HF.out.set j _
          case measure => simp [intOf]; omega
        · have hj9 : j = 32 := by omega
          subst hj9
          rw [fill_full HOL.out] at hbf
          have H1 := Lib.hid hb1
          have HF := Lib.hid hbf
          have HE := Lib.hid hbel
          clear hbf hb1 hb2 hbel
          have HIo : Hid ((Tryd.prog.info? 25).map (·.size) = some (o.map bval).length) := Lib.hid (num_size HOL.out)
          have HLo : Hid ((o.map bval).length = (ints .u8 (List.replicate 32 0)).length) := Lib.hid (by rw [List.length_map, HOL.out, ints_length, List.length_replicate])
          go_wp2_with (first | (refine wpList_load_blk rfl _ _ rfl F rfl _ _ _ _ HF.out Tryd.underlying25 HIo.out ?_) | (refine wpList_store_blk rfl _ _ _ rfl A (o.map bval) rfl rfl _ _ H1.out HLo.out HIo.out (bval_one _) ?_; intro w7 hb7 hg7))
          refine bodyPost_ret (result_blk rfl _ A _ _ _ _ rfl hb7 Tryd.underlying25 HIo.out) rfl ?_
          exact ⟨by rw [HOS.out], ext_grown HE.out hg7 (by omega)⟩

end Go.Proofs.YtcfmobgnlejpeaaDoor

/- The listed variables of chapter 5's laws read as they are listed. Each theorem names its own conditions. -/
namespace Go.Proofs.YtcfmobgnlejpeaaDoor
open Go.RowKit
set_option linter.unusedVariables false

theorem gRoots : Tryd.prog.globalNamed "portcullis/sha.roots" = some 1 := by kernel_rfl
theorem tRoots : (Tryd.prog.globals[1]?).map (·.type) = some 60 := by kernel_rfl
theorem dRoots : (Rows.laid_portcullis_sha_roots : DataW Unit) = .agg ((ws K256).map fun z => .lit (.int .u32 z)) := by kernel_rfl
theorem gK256 : Tryd.prog.globalNamed "portcullis/portcullisref1.k256" = some 0 := by kernel_rfl
theorem tK256 : (Tryd.prog.globals[0]?).map (·.type) = some 60 := by kernel_rfl
theorem dK256 : (Rows.laid_portcullis_portcullisref1_k256 : DataW Unit) = .agg ((ws K256).map fun z => .lit (.int .u32 z)) := by kernel_rfl
theorem globR_of {W : World} {L : List (String × DataW Unit)} (hp : (L.all fun x => x.2.handleName?.isNone) = true) (h : laidMetH Tryd.prog L W) (hm : ("portcullis/sha.roots", Rows.laid_portcullis_sha_roots) ∈ L) : GlobR W :=
  range_of_laid hp h hm dRoots gRoots tRoots Tryd.underlying60 Tryd.underlying47 (by kernel_rfl) (by rw [ws_length]; rfl)
theorem globK_of {W : World} {L : List (String × DataW Unit)} (hp : (L.all fun x => x.2.handleName?.isNone) = true) (h : laidMetH Tryd.prog L W) (hm : ("portcullis/portcullisref1.k256", Rows.laid_portcullis_portcullisref1_k256) ∈ L) : GlobK W :=
  range_of_laid hp h hm dK256 gK256 tK256 Tryd.underlying60 Tryd.underlying47 (by kernel_rfl) (by rw [ws_length]; rfl)
theorem int_both {n : Int} (h : (Lit.int .i64 n).wf = true) : -9223372036854775808 ≤ n ∧ n ≤ 9223372036854775807 := by simpa [Lit.wf, IntKind.min, IntKind.max, IntKind.signed, IntKind.bits] using h
theorem int_lo {n : Int} (h : (Lit.int .i64 n).wf = true) : -9223372036854775808 ≤ n := (int_both h).1
theorem int_hi {n : Int} (h : (Lit.int .i64 n).wf = true) : n ≤ 9223372036854775807 := (int_both h).2

end Go.Proofs.YtcfmobgnlejpeaaDoor

/- HMAC and HKDF as functions on lists. No program. Each theorem names its own conditions. -/
namespace Go.Proofs.YtcfmobgnlejpeaaDoor
open Go.RowKit
set_option linter.unusedVariables false
set_option linter.unusedSimpArgs false

/-- A key of at most 64 bytes, and noughts behind. -/
def hPad (k : List UInt8) : List UInt8 := k ++ List.replicate (64 - k.length) 0
def hKey (k : List UInt8) : List UInt8 := if 64 < k.length then sha256 k else k
/-- The key's block, each byte turned by one. -/
def hXor (c : UInt8) (k : List UInt8) : List UInt8 := (hPad (hKey k)).map (· ^^^ c)
def hmac (k m : List UInt8) : List UInt8 := sha256 (hXor 0x5c k ++ sha256 (hXor 0x36 k ++ m))
theorem hmac_length (k m : List UInt8) : (hmac k m).length = 32 := sha256_length _
theorem hKey_length (k : List UInt8) : (hKey k).length ≤ 64 := by
  unfold hKey
  split
  · rw [sha256_length]
    omega
  · omega
theorem hPad_length {k : List UInt8} (h : k.length ≤ 64) : (hPad k).length = 64 := by
  unfold hPad
  rw [List.length_append, List.length_replicate]
  omega
theorem hXor_length (c : UInt8) (k : List UInt8) : (hXor c k).length = 64 := by
  unfold hXor
  rw [List.length_map, hPad_length (hKey_length k)]
theorem hKey_small {k : List UInt8} (h : k.length ≤ 64) : hKey k = k := by
  unfold hKey
  rw [if_neg (by omega)]
/-- Noughts behind a key make no difference. -/
theorem hmac_zeros (k m : List UInt8) (n : Nat) (h : k.length + n ≤ 64) : hmac (k ++ List.replicate n 0) m = hmac k m := by
  have e : hPad (k ++ List.replicate n 0) = hPad k := by
    unfold hPad
    rw [List.length_append, List.length_replicate, List.append_assoc, List.replicate_append_replicate]
    congr 2
    omega
  unfold hmac hXor
  rw [hKey_small (k := k ++ List.replicate n 0) (by rw [List.length_append, List.length_replicate]; omega), hKey_small (k := k) (by omega), e]
/-- A longer key is its hash. -/
theorem hmac_long {k : List UInt8} (m : List UInt8) (h : 64 < k.length) : hmac (sha256 k) m = hmac k m := by
  have e : hKey (sha256 k) = hKey k := by
    rw [hKey_small (by rw [sha256_length]; omega)]
    unfold hKey
    rw [if_pos h]
  unfold hmac hXor
  rw [e]

/-- T(i) of HKDF. -/
def hkT (k info : List UInt8) : Nat → List UInt8
  | 0 => []
  | i + 1 => hmac k (hkT k info i ++ info ++ [UInt8.ofNat ((i + 1) % 256)])
/-- T(1) to T(n), one behind the other. -/
def hkAll (k info : List UInt8) : Nat → List UInt8
  | 0 => []
  | n + 1 => hkAll k info n ++ hkT k info (n + 1)
theorem hkT_length (k info : List UInt8) (i : Nat) : (hkT k info (i + 1)).length = 32 := hmac_length _ _
theorem hkAll_length (k info : List UInt8) : ∀ n, (hkAll k info n).length = 32 * n
  | 0 => rfl
  | n + 1 => by rw [hkAll, List.length_append, hkAll_length k info n, hkT_length]; omega
def hExpand (k info : List UInt8) (n : Nat) : List UInt8 := (hkAll k info ((n + 31) / 32)).take n
theorem hkAll_take (k info : List UInt8) {n : Nat} : ∀ m, (n + 31) / 32 ≤ m → (hkAll k info m).take n = hExpand k info n
  | 0, h => by
    have : n = 0 := by omega
    subst this
    simp [hExpand]
  | m + 1, h => by
    by_cases e : (n + 31) / 32 = m + 1
    · unfold hExpand
      rw [e]
    · rw [← hkAll_take k info m (by omega), hkAll, List.take_append_of_le_length (by rw [hkAll_length]; omega)]
theorem hExpand_length (k info : List UInt8) (n : Nat) : (hExpand k info n).length = n := by
  unfold hExpand
  rw [List.length_take, hkAll_length]
  omega
/-- What is shorter is the beginning of what is longer. -/
theorem hExpand_take (k info : List UInt8) {n m : Nat} (h : n ≤ m) : (hExpand k info m).take n = hExpand k info n := by
  unfold hExpand
  rw [List.take_take, Nat.min_eq_left h, hkAll_take k info _ (by omega)]
  rfl
/-- The i-th 32 bytes. -/
theorem hExpand_part (k info : List UInt8) {i n : Nat} (h : i < n) : ((hExpand k info (32 * n)).drop (32 * i)).take 32 = hkT k info (i + 1) := by
  have e1 : (hExpand k info (32 * n)).take (32 * (i + 1)) = hExpand k info (32 * (i + 1)) := hExpand_take k info (by omega)
  have e2 : ((hExpand k info (32 * n)).drop (32 * i)).take 32 = ((hExpand k info (32 * n)).take (32 * (i + 1))).drop (32 * i) := by
    rw [List.drop_take]
    congr 1
    omega
  have e3 : hExpand k info (32 * (i + 1)) = hkAll k info i ++ hkT k info (i + 1) := by
    unfold hExpand
    have : (32 * (i + 1) + 31) / 32 = i + 1 := by omega
    rw [this, List.take_of_length_le (by rw [hkAll_length]; omega)]
    rfl
  rw [e2, e1, e3, List.drop_append_of_le_length (by rw [hkAll_length]; omega), List.drop_of_length_le (by rw [hkAll_length]; omega), List.nil_append]
theorem hmac_jefe : hmac [74, 101, 102, 101] [119, 104, 97, 116, 32, 100, 111, 32, 121, 97, 32, 119, 97, 110, 116, 32, 102, 111, 114, 32, 110, 111, 116, 104, 105, 110, 103, 63] = [0x5b, 0xdc, 0xc1, 0x46, 0xbf, 0x60, 0x75, 0x4e, 0x6a, 0x04, 0x24, 0x26, 0x08, 0x95, 0x75, 0xc7, 0x5a, 0x00, 0x3f, 0x08, 0x9d, 0x27, 0x39, 0x83, 0x9d, 0xec, 0x58, 0xb9, 0x64, 0xec, 0x38, 0x43] := by decide +kernel

end Go.Proofs.YtcfmobgnlejpeaaDoor

/- make of zero bytes, and bytes laid over a block. Nothing here speaks of a program. Each theorem names its own conditions. -/
namespace Go.Proofs.YtcfmobgnlejpeaaDoor
open Go.RowKit
set_option linter.unusedVariables false
set_option linter.unusedSimpArgs false

theorem made_zero (n : Nat) : madeCells #[.int .u8 0] n = Array.replicate n (bval 0) := by
  apply Array.ext'
  unfold madeCells
  rw [Array.toList_map]
  apply List.ext_getElem
  · simp
  · intro i h1 h2
    simp [Nat.mod_one, bval]
def zB (n : Nat) : List UInt8 := List.replicate n 0
theorem zB_length (n : Nat) : (zB n).length = n := by simp [zB]
section
variable {P : Program}
/-- make([]byte, m, m): what it answers, and the world. -/
theorem run_make_zeros (w : World) (t e : TypeId) (ht : P.underlying t = some (.slice e)) (i : TypeInfo) (hi : P.info? e = some i) (hz : i.zero = some (.int .u8 0)) (h1 : i.size = 1) (hb : i.bytes = 1) (m : Nat) (hm : m ≤ 1099511627776) :
    (Instr.makeSlice t (.int .i64 (m : Int)) (.int .i64 (m : Int))).run P w = .ok (.slice (some ⟨w.heap.size, 0, none⟩) m m) (w.alloc (.cells ((zB m).map bval).toArray e)) := by
  have hmk := run_make w t e i (.int .u8 0) ht hi hz .i64 .i64 (m : Int) (m : Int) (by omega) (by omega) (by rw [hb]; omega) (by omega)
  have hmc : madeCells (Value.cells (.int .u8 0)) (m * 1) = Array.replicate m (bval 0) := by rw [Nat.mul_one]; exact made_zero m
  rw [Int.toNat_natCast, h1, hmc] at hmk
  rw [hmk]
  simp [zB]
end
theorem splice_bytes (l c : List UInt8) (f : Nat) : splice (l.map bval) f (c.map bval) = (l.take f ++ c ++ l.drop (f + c.length)).map bval := by
  unfold splice
  simp
theorem splice_zeros (n : Nat) (c : List UInt8) : splice ((zB n).map bval) 0 (c.map bval) = (c ++ List.replicate (n - c.length) 0).map bval := by
  rw [splice_bytes]
  simp [zB]
/-- Where the bytes of a slice stand, as copy asks it. -/
theorem row_src {w : World} {a : Option Addr} {n cap : Nat} {l : List UInt8} (h : Row1 w (.slice a n cap) (l.map bval)) (c : List UInt8) (hc : c = l.take c.length) (hcl : c.length ≤ l.length) {w' : World} (he : Ext w w') :
    0 < (c.map bval).length → ∃ ad, a = some ad ∧ ∀ (j : Nat) (v : Value), (c.map bval)[j]? = some v → w'.cell? (ad.add j) = some v := fun hpos => by
  obtain ⟨a', cap', e, t1, t2, t3, t4⟩ := h
  cases e
  rw [List.length_map] at hpos t4
  obtain ⟨b3, off3, rfl, t5, t6⟩ := t4 (by intro e; have h := congrArg List.length e; rw [List.length_map] at h; simp only [List.length_nil] at h; omega)
  refine ⟨_, rfl, fun j v hj => ?_⟩
  have hjl : j < c.length := by
    rcases Nat.lt_or_ge j c.length with h | h
    · exact h
    · rw [List.getElem?_eq_none (by rw [List.length_map]; exact h)] at hj; cases hj
  have e := t6 j (by omega)
  have e2 : (l.map bval)[j]? = (c.map bval)[j]? := by
    conv => rhs; rw [hc]
    rw [List.getElem?_map, List.getElem?_map, List.getElem?_take, if_pos (by first | exact hjl | (rw [List.length_take]; omega))]
  rw [WideShapes.add_plain, ← hj, ← e2, ← e]
  exact he.cell (p := ⟨b3, off3 + j, none⟩) t5
section
variable {P : Program}
theorem grown_setRow (w : World) (g : Nat) (cs : Array Value) : w.grownBy (w.setRow g cs) (some g) :=
  ⟨rfl, rfl, rfl, by simp [World.setRow], fun k _ hk => setRow_other w g k cs (fun e => hk (by rw [e]))⟩
/-- copy into a block that is known whole, as an operation: no other block turns. -/
theorem wp_copy_blk {w : World} {o : Oper} {a : Act} {K : Act → World → Prop} {Q : Exit → Act → World → Prop} (d s : Operand) (dT sT : TypeId)
    (ho : o.op = .call { callee := .builtin .copy, args := #[d, s], argTypes := #[dT, sT] }) (elem : TypeId) (hu : P.underlying dT = some (.slice elem)) (hsz : (P.info? elem).map (·.size) = some 1)
    (dp sp : Option Addr) (dLen dCap sLen sCap : Nat) (hd : a.eval d = .slice dp dLen dCap) (hs : a.eval s = .slice sp sLen sCap)
    (g off : Nat) (cur : List Value) (t : TypeId) (hg : Blk w g cur t) (cs : List Value) (hn : cs.length = Nat.min sLen dLen)
    (hpos : 0 < cs.length → dp = some ⟨g, off, none⟩ ∧ ∃ ad, sp = some ad ∧ ∀ j v, cs[j]? = some v → w.cell? (ad.add j) = some v)
    (hfit : off + cs.length ≤ cur.length) (h1 : ∀ v ∈ cs, v.oneCell' = true)
    (h : ∀ w', Blk w' g (splice cur off cs) t → w.grownBy w' (some g) → K (a.put o.dst (goInt cs.length)) w') : o.wp P a w K Q := by
  by_cases h0 : cs.length = 0
  · obtain rfl : cs = [] := List.eq_nil_of_length_eq_zero h0
    have hrun := run_copy_none (P := P) w dT sT o.type elem dp sp dLen dCap sLen sCap hu hsz (by simpa using hn.symm)
    unfold Oper.wp
    simp [execOp, ho, resolve, invoke, builtin, hd, hs, hrun, Result.andThen]
    exact h w (by simpa [splice] using hg) (World.grownBy.refl _ _)
  · obtain ⟨rfl, ad, rfl, hsrc⟩ := hpos (by omega)
    have hrun := run_copy_row (P := P) w dT sT o.type elem g off dLen dCap ad sLen sCap cur.toArray t cs hu hsz hg hn hsrc (by simpa using hfit) h1
    unfold Oper.wp
    simp [execOp, ho, resolve, invoke, builtin, hd, hs, hrun, Result.andThen]
    exact h _ (show _ = _ by simpa [splice] using setRow_heap w g _ _ t _ hg) (grown_setRow _ _ _)
/-- copy into a block that is known whole: no other block turns. -/
theorem wpList_copy_blk {w : World} {ops : Array Oper} {rest : List Oper} {o : Oper} {a : Act} {Q : Exit → Act → World → Prop} (hgd : o.guard = none) (d s : Operand) (dT sT : TypeId)
    (ho : o.op = .call { callee := .builtin .copy, args := #[d, s], argTypes := #[dT, sT] }) (elem : TypeId) (hu : P.underlying dT = some (.slice elem)) (hsz : (P.info? elem).map (·.size) = some 1)
    (dp sp : Option Addr) (dLen dCap sLen sCap : Nat) (hd : a.eval d = .slice dp dLen dCap) (hs : a.eval s = .slice sp sLen sCap)
    (g off : Nat) (cur : List Value) (t : TypeId) (hg : Blk w g cur t) (cs : List Value) (hn : cs.length = Nat.min sLen dLen)
    (hpos : 0 < cs.length → dp = some ⟨g, off, none⟩ ∧ ∃ ad, sp = some ad ∧ ∀ j v, cs[j]? = some v → w.cell? (ad.add j) = some v)
    (hfit : off + cs.length ≤ cur.length) (h1 : ∀ v ∈ cs, v.oneCell' = true)
    (h : ∀ w', Blk w' g (splice cur off cs) t → w.grownBy w' (some g) → wpList P ops Q rest (a.put o.dst (goInt cs.length)) w') :
    wpList P ops Q (o :: rest) a w := by
  by_cases h0 : cs.length = 0
  · obtain rfl : cs = [] := List.eq_nil_of_length_eq_zero h0
    refine wpList_copy_nothing hgd d s dT sT ho elem hu hsz dp sp dLen dCap sLen sCap hd hs (by simpa using hn.symm) ?_
    exact h w (by simpa [splice] using hg) (World.grownBy.refl _ _)
  · obtain ⟨rfl, ad, rfl, hsrc⟩ := hpos (by omega)
    refine wpList_copy_own hgd d s dT sT ho elem hu hsz g off dLen dCap ad sLen sCap hd hs cur.toArray t hg cs hn hsrc (by simpa using hfit) h1 ?_
    exact h _ (show _ = _ by simpa [splice] using setRow_heap w g _ _ t _ hg) (grown_setRow _ _ _)
end
/-- A block that is known whole, as a row of the call's own. -/
theorem own_blk {w : World} {base g n : Nat} {e : TypeId} {cs : List Value} (h : Blk w g cs e) (hb : base ≤ g) (hn : cs.length = n) (hm : n ≤ maxLen) : w.ownsRow base e 1 (.slice (some ⟨g, 0, none⟩) n n) n cs := by
  subst hn
  exact ⟨by simp, Or.inr ⟨g, cs.length, cs.toArray, rfl, hb, h, Nat.le_refl _, hm, by simp, by rw [Nat.mul_one]; exact List.take_of_length_le (Nat.le_refl _)⟩⟩

end Go.Proofs.YtcfmobgnlejpeaaDoor

/- Forms of rows and of a row of the call's own; a byte turned by another; pieces of a list. Nothing here speaks of a program. Each theorem names its own conditions. -/
namespace Go.Proofs.YtcfmobgnlejpeaaDoor
open Go.RowKit
set_option linter.unusedVariables false
set_option linter.unusedSimpArgs false

theorem own_form {w : World} {base n : Nat} {e : TypeId} {x : Value} {xs : List Value} (h : w.ownsRow base e 1 x n xs) (hn : 0 < n) :
    ∃ g cap cur, x = .slice (some ⟨g, 0, none⟩) n cap ∧ base ≤ g ∧ Blk w g cur e ∧ n ≤ cap ∧ cap ≤ maxLen ∧ cur.take n = xs ∧ n ≤ cur.length := by
  obtain ⟨h1, ⟨_, h0⟩ | ⟨g, cap, cur, rfl, h2, h3, h4, h5, h6, h7⟩⟩ := h
  · omega
  · rw [Nat.mul_one] at h7
    refine ⟨g, cap, cur.toList, rfl, h2, h3, h4, h5, h7, ?_⟩
    have := congrArg List.length h7
    rw [List.length_take] at this
    omega
theorem xor_u8 (a b : UInt8) : bits .xor .u8 (a.toNat : Int) (b.toNat : Int) = ((a ^^^ b).toNat : Int) := by
  have e1 : (BitVec.ofInt 8 (a.toNat : Int)) = a.toBitVec := by
    apply BitVec.eq_of_toNat_eq
    have := a.toNat_lt
    rw [BitVec.toNat_ofInt]
    show _ = a.toNat
    omega
  have e2 : (BitVec.ofInt 8 (b.toNat : Int)) = b.toBitVec := by
    apply BitVec.eq_of_toNat_eq
    have := b.toNat_lt
    rw [BitVec.toNat_ofInt]
    show _ = b.toNat
    omega
  show IntKind.u8.wrap ((BitVec.ofInt 8 (a.toNat : Int) ^^^ BitVec.ofInt 8 (b.toNat : Int)).toNat : Nat) = _
  rw [e1, e2, IntKind.wrap_u8]
  have h := (a ^^^ b).toNat_lt
  have e3 : (a.toBitVec ^^^ b.toBitVec).toNat = (a ^^^ b).toNat := rfl
  rw [e3]
  omega

theorem info_two {P : Program} {t : TypeId} {z : Value} {n : Nat} (h : (P.info? t).map (fun i => (i.zero, i.size)) = some (some z, n)) : ∃ i, P.info? t = some i ∧ i.zero = some z ∧ i.size = n := by
  cases hp : P.info? t with
  | none => rw [hp] at h; cases h
  | some i =>
    rw [hp] at h
    simp only [Option.map_some, Option.some.injEq, Prod.mk.injEq] at h
    exact ⟨i, rfl, h.1, h.2⟩
theorem row_form2 {w : World} {v : Value} {vs : List Value} (h : Row1 w v vs) : ∃ a n c, v = .slice a n c := by
  obtain ⟨a, c, rfl, _⟩ := h
  exact ⟨_, _, _, rfl⟩
theorem row_form {w : World} {v : Value} {vs : List Value} (h : Row1 w v vs) : ∃ a n c, v = .slice a n c := by
  obtain ⟨a, c, rfl, _⟩ := h
  exact ⟨_, _, _, rfl⟩
theorem cut3 (l : List UInt8) (p q : Nat) (h : p ≤ q) : [l.take p, (l.drop p).take (q - p), l.drop q].flatten = l := by
  have e : l.drop q = (l.drop p).drop (q - p) := by rw [List.drop_drop]; congr 1; omega
  simp only [List.flatten_cons, List.flatten_nil, List.append_nil]
  rw [e, List.take_append_drop, List.take_append_drop]
theorem cut4 (l : List UInt8) (q : Nat) : [[], l.take q, [], l.drop q].flatten = l := by
  simp

end Go.Proofs.YtcfmobgnlejpeaaDoor

/- s[n:] of whatever reads as a list, whatever its address. Nothing here speaks of a program. Each theorem names its own conditions. -/
namespace Go.Proofs.YtcfmobgnlejpeaaDoor
open Go.RowKit
set_option linter.unusedVariables false

section
variable {P : Program} {w : World}
theorem row_cut {t e : TypeId} (ht : P.underlying t = some (.slice e)) (hs : ∀ w, (sizeOf e).run P w = .ok 1 w) {v : Value} {vs : List Value} (h : Row1 w v vs) (n : Nat) (hn : n ≤ vs.length) :
    ∃ v', Row1 w v' (vs.drop n) ∧ ∀ w', (Instr.sliceAt t v (some (.int .i64 (n : Int))) none none).run P w' = .ok v' w' := by
  obtain ⟨a, cap, rfl, h1, h2, h3, h4⟩ := h
  have e2 : P.elem t = e := by unfold Program.elem; rw [ht]
  have ht2 : P.underlying t = some (.slice (P.elem t)) := by rw [e2]; exact ht
  have hr : ∀ w', (Instr.sliceAt t (.slice a vs.length cap) (some (.int .i64 (n : Int))) none none).run P w' = .ok (sliced a n vs.length cap 1) w' := fun w' => by
    rw [run_sliceAt_slice w' t _ _ _ _ ht2, run_slice_l (ht := ht2) (kl := .i64) (l := (n : Int)) (h0 := by omega) (h1 := by omega), e2, hs]
    simp
  refine ⟨_, ?_, hr⟩
  have hl : (vs.drop n).length = vs.length - n := by simp
  unfold sliced
  by_cases hc : cap = n
  · rw [if_pos hc]
    have hv : vs.drop n = [] := List.drop_eq_nil_of_le (by omega)
    rw [hv]
    refine ⟨a, cap - n, by rw [show vs.length - n = 0 from by omega]; rfl, Nat.zero_le _, by omega, fun e => by have := h3 e; omega, fun h => absurd rfl h⟩
  · rw [if_neg hc]
    refine ⟨a.map (·.add (n * 1)), cap - n, by rw [hl], by rw [hl]; omega, by omega, fun e => ?_, fun hne => ?_⟩
    · cases a with
      | none => have := h3 rfl; omega
      | some a => cases e
    · have hne2 : vs ≠ [] := by rintro rfl; simp at hne
      obtain ⟨b, off, rfl, g1, g2⟩ := h4 hne2
      refine ⟨b, off + n, by rw [Option.map_some, WideShapes.add_plain, Nat.mul_one], g1, fun i hi => ?_⟩
      rw [hl] at hi
      rw [Nat.add_assoc, g2 (n + i) (by omega), List.getElem?_drop]
/-- A part of what reads as a list, by the address that slicing makes of it. -/
theorem row_sliced {a : Option Addr} {cap : Nat} {vs : List Value} (h : Row1 w (.slice a vs.length cap) vs) (i k : Nat) (hik : i ≤ k) (hk : k ≤ vs.length) : Row1 w (sliced a i k cap 1) ((vs.drop i).take (k - i)) := by
  obtain ⟨a0, cap0, e0, h1, h2, h3, h4⟩ := h
  cases e0
  have hl : ((vs.drop i).take (k - i)).length = k - i := by simp; omega
  unfold sliced
  by_cases hc : cap = i
  · rw [if_pos hc]
    have hv : (vs.drop i).take (k - i) = [] := List.eq_nil_of_length_eq_zero (by omega)
    rw [hv]
    refine ⟨a, cap - i, by rw [show k - i = 0 from by omega]; rfl, Nat.zero_le _, by omega, fun e => by have := h3 e; omega, fun h => absurd rfl h⟩
  · rw [if_neg hc]
    refine ⟨a.map (·.add (i * 1)), cap - i, by rw [hl], by rw [hl]; omega, by omega, fun e => ?_, fun hne => ?_⟩
    · cases a with
      | none => have := h3 rfl; omega
      | some a => cases e
    · have hne2 : vs ≠ [] := by rintro rfl; simp at hne
      obtain ⟨b, off, rfl, g1, g2⟩ := h4 hne2
      refine ⟨b, off + i, by rw [Option.map_some, WideShapes.add_plain, Nat.mul_one], g1, fun j hj => ?_⟩
      rw [hl] at hj
      rw [Nat.add_assoc, g2 (i + j) (by omega), List.getElem?_take, if_pos hj, List.getElem?_drop]
/-- s[:k]. -/
theorem row_upto {t e : TypeId} (ht : P.underlying t = some (.slice e)) (hs : ∀ w, (sizeOf e).run P w = .ok 1 w) {v : Value} {vs : List Value} (h : Row1 w v vs) (k : Nat) (hk : k ≤ vs.length) :
    ∃ v', Row1 w v' (vs.take k) ∧ ∀ w', (Instr.sliceAt t v none (some (.int .i64 (k : Int))) none).run P w' = .ok v' w' := by
  obtain ⟨a, cap, rfl, h1, _⟩ := id h
  have e2 : P.elem t = e := by unfold Program.elem; rw [ht]
  have ht2 : P.underlying t = some (.slice (P.elem t)) := by rw [e2]; exact ht
  refine ⟨sliced a 0 k cap 1, by simpa using row_sliced h 0 k (Nat.zero_le _) hk, fun w' => ?_⟩
  rw [run_sliceAt_slice w' t _ _ _ _ ht2, run_slice_h (ht := ht2) (kh := .i64) (h := (k : Int)) (h0 := by omega) (h2 := by omega), e2, hs]
  simp
/-- s[i:k]. -/
theorem row_mid {t e : TypeId} (ht : P.underlying t = some (.slice e)) (hs : ∀ w, (sizeOf e).run P w = .ok 1 w) {v : Value} {vs : List Value} (h : Row1 w v vs) (i k : Nat) (hik : i ≤ k) (hk : k ≤ vs.length) :
    ∃ v', Row1 w v' ((vs.drop i).take (k - i)) ∧ ∀ w', (Instr.sliceAt t v (some (.int .i64 (i : Int))) (some (.int .i64 (k : Int))) none).run P w' = .ok v' w' := by
  obtain ⟨a, cap, rfl, h1, _⟩ := id h
  have e2 : P.elem t = e := by unfold Program.elem; rw [ht]
  have ht2 : P.underlying t = some (.slice (P.elem t)) := by rw [e2]; exact ht
  refine ⟨sliced a i k cap 1, row_sliced h i k hik hk, fun w' => ?_⟩
  rw [run_sliceAt_slice w' t _ _ _ _ ht2, run_slice_lh (ht := ht2) (kl := .i64) (kh := .i64) (l := (i : Int)) (h := (k : Int)) (h0 := by omega) (h1 := by omega) (h2 := by omega), e2, hs]
  simp
/-- Rows of rows. -/
theorem rowB1 {v x : Value} {l : List UInt8} (h : Row1 w v [x]) (hx : Row1 w x (l.map bval)) : RowB w v [l] :=
  ⟨_, h, rfl, fun i y k hy hk => by
    match i with
    | 0 => simp at hy hk; subst hy; subst hk; exact hx
    | i + 1 => simp at hy⟩
theorem rowB2 {v x y : Value} {l m : List UInt8} (h : Row1 w v [x, y]) (hx : Row1 w x (l.map bval)) (hy : Row1 w y (m.map bval)) : RowB w v [l, m] :=
  ⟨_, h, rfl, fun i u k hu hk => by
    match i with
    | 0 => simp at hu hk; subst hu; subst hk; exact hx
    | 1 => simp at hu hk; subst hu; subst hk; exact hy
    | i + 2 => simp at hu⟩
theorem rowB3 {v x y z : Value} {l m n : List UInt8} (h : Row1 w v [x, y, z]) (hx : Row1 w x (l.map bval)) (hy : Row1 w y (m.map bval)) (hz : Row1 w z (n.map bval)) : RowB w v [l, m, n] :=
  ⟨_, h, rfl, fun i u k hu hk => by
    match i with
    | 0 => simp at hu hk; subst hu; subst hk; exact hx
    | 1 => simp at hu hk; subst hu; subst hk; exact hy
    | 2 => simp at hu hk; subst hu; subst hk; exact hz
    | i + 3 => simp at hu⟩
theorem rowB4 {v x y z u : Value} {l m n o : List UInt8} (h : Row1 w v [x, y, z, u]) (hx : Row1 w x (l.map bval)) (hy : Row1 w y (m.map bval)) (hz : Row1 w z (n.map bval)) (hu : Row1 w u (o.map bval)) : RowB w v [l, m, n, o] :=
  ⟨_, h, rfl, fun i q k hq hk => by
    match i with
    | 0 => simp at hq hk; subst hq; subst hk; exact hx
    | 1 => simp at hq hk; subst hq; subst hk; exact hy
    | 2 => simp at hq hk; subst hq; subst hk; exact hz
    | 3 => simp at hq hk; subst hq; subst hk; exact hu
    | i + 4 => simp at hq⟩
/-- A new block of cells that bears a mark, as a row. -/
theorem Row1.made_mark (w : World) (c : Array Value) (e : TypeId) (fr : Nat × Nat) (n m : Nat) (l : List Value) (hn : w.heap.size = n) (hc : c.toList = l) (hl : l.length = m) (hm : m ≤ maxLen) : Row1 (w.alloc (.cells c e fr)) (.slice (some ⟨n, 0, none⟩) m m) l := by
  subst hn; subst hl; subst hc
  refine ⟨_, _, rfl, Nat.le_refl _, hm, (fun e => by cases e), fun _ => ⟨w.heap.size, 0, rfl, by simp, fun i hi => ?_⟩⟩
  rw [Nat.zero_add, World.cell?_alloc_mark]
  simp
/-- A whole array, as a row. -/
theorem blk_row {c n : Nat} {cs : List Value} {t : TypeId} (h : Blk w c cs t) (hn : cs.length = n) (hm : n ≤ maxLen) : Row1 w (.slice (some ⟨c, 0, none⟩) n n) cs := by
  subst hn
  exact ⟨_, _, rfl, Nat.le_refl _, hm, (fun e => by cases e), fun _ => ⟨c, 0, rfl, h.lt, fun i _ => by rw [Nat.zero_add, h.cell]⟩⟩
/-- a[:] of an array that is a variable. -/
theorem cut_whole {t : TypeId} {n : Nat} {e : TypeId} (ht : P.underlying t = some (.array n e)) (h : ∀ w, (sizeOf e).run P w = .ok 1 w) (hn : 0 < n) (A : Nat) (w : World) :
    (Instr.sliceAt t (.pointer (some ⟨A, 0, none⟩)) none none none).run P w = .ok (.slice (some ⟨A, 0, none⟩) n n) w := by
  have e1 : P.arrayLen t = n := by unfold Program.arrayLen; rw [ht]
  have e2 : P.elem t = e := by unfold Program.elem; rw [ht]
  rw [run_sliceAt_array_all w t ⟨A, 0, none⟩ (by rw [e1, e2]; exact ht), e2, h, e1]
  simp [slicedAt, Addr.add, show ¬ n = 0 by omega]
end

end Go.Proofs.YtcfmobgnlejpeaaDoor

/- The walk of the document's own Mac. Each theorem names its own conditions. -/
namespace Go.Proofs.YtcfmobgnlejpeaaDoor
open Go.RowKit
set_option linter.unusedVariables false
set_option linter.unusedSimpArgs false

theorem one_u8 : (Tryd.prog.info? 5).map (·.size) = some 1 := by kernel_rfl
theorem hKey_long {k : List UInt8} (h : 64 < k.length) : hKey k = sha256 k := by
  unfold hKey
  rw [if_pos h]
/-- A block of 64 bytes, of which the first i are turned. -/
def xTo (l : List UInt8) (c : UInt8) (i : Nat) : List UInt8 := (l.take i).map (· ^^^ c) ++ l.drop i
theorem xTo_length (l : List UInt8) (c : UInt8) (i : Nat) : (xTo l c i).length = l.length := by
  unfold xTo
  rw [List.length_append, List.length_map, List.length_take, List.length_drop]
  omega
theorem xTo_getD (l : List UInt8) (c : UInt8) (i : Nat) (h : i < l.length) : (xTo l c i).getD i 0 = l.getD i 0 := by
  unfold xTo
  have e : ((l.take i).map (· ^^^ c)).length = i := by rw [List.length_map, List.length_take]; omega
  simp only [List.getD]
  rw [List.getElem?_append_right (by omega), e, Nat.sub_self, List.getElem?_drop, Nat.add_zero]
theorem xTo_set (l : List UInt8) (c : UInt8) (i : Nat) (h : i < l.length) : (xTo l c i).set i (l.getD i 0 ^^^ c) = xTo l c (i + 1) := by
  unfold xTo
  have e : ((l.take i).map (· ^^^ c)).length = i := by rw [List.length_map, List.length_take]; omega
  have e3 : l.getD i 0 = l[i] := by simp [List.getD, h]
  rw [List.set_append_right _ _ (by omega), e, Nat.sub_self, List.drop_eq_getElem_cons h, List.set_cons_zero, e3, List.take_succ_eq_append_getElem h, List.map_append, List.append_assoc]
  rfl
theorem xTo_zero (l : List UInt8) (c : UInt8) : xTo l c 0 = l := by simp [xTo]
theorem xTo_full {l : List UInt8} (c : UInt8) {n : Nat} (h : l.length = n) : xTo l c n = l.map (· ^^^ c) := by
  unfold xTo
  rw [List.take_of_length_le (by omega), List.drop_of_length_le (by omega), List.append_nil]

set_option maxRecDepth 100000 in
set_option maxHeartbeats 8000000 in
theorem rMac_any (kv bv : Value) (k m : List UInt8) (w : World) (hk : Row1 w kv (k.map bval)) (hm : Row1 w bv (m.map bval)) (hkl : k.length ≤ 1099511627776) (hml : m.length ≤ 1099511627712) (hG : GlobK w) :
    Calls Tryd.prog 18 #[kv, bv] w fun e w' => e = .returned (.agg ((hmac k m).map bval).toArray) ∧ Below w.heap.size w w' := by
  have HK := Lib.hid hk
  have HM := Lib.hid hm
  have HG := Lib.hid hG
  have HKL := Lib.hid hkl
  have HML := Lib.hid hml
  obtain ⟨a, cap, rfl, r1, r2, r3, r4⟩ := id hk
  rw [List.length_map] at r1 HK ⊢
  unfold maxLen at r2
  have HB0 := Lib.hid (Blk.made w (ints .u8 (List.replicate 32 0)) 25)
  have HE0 := Lib.hid (Ext.alloc w (.cells (ints .u8 (List.replicate 32 0)).toArray 25))
  clear hk hm hG hkl hml r3 r4
  go_enter Tryd.func18, Tryd.ntmps18
  go_upto_if 12 with (fail)
  change Code.wp _ _ _ _ (w.alloc (.cells (ints .u8 (List.replicate 32 0)).toArray 25))
  generalize hw1 : w.alloc (.cells (ints .u8 (List.replicate 32 0)).toArray 25) = w1 at *
  clear hw1
  go_cut [0, 5] from 10 to 15 (fun v u5 wc => ∃ (a' : Option Addr) (n cap' : Nat), v = .slice a' n cap' ∧ n = (hKey k).length ∧ Row1 wc (.slice a' n cap') ((hKey k).map bval) ∧ Blk wc w.heap.size (ints .u8 (List.replicate 32 0)) 25 ∧ Ext w wc)
  case first =>
    by_cases h64 : 64 < k.length
    · have h64' : (64 : Int) < (k.length : Int) := by omega
      have hkk := hKey_long h64
      go_wp2_with fail
      refine (rSha_any _ k _ (HK.out.below HE0.out) HKL.out (HG.out.ext HE0.out)).mono ?_
      rintro e w2 ⟨rfl, hb⟩
      have HE2 := Lib.hid (HE0.out.trans hb)
      have HB2 := Lib.hid (HB0.out.same (hb.block _ HB0.out.lt))
      clear hb HB0 HE0
      have HHK := Lib.hid hkk
      have HL := Lib.hid (sha256_length k)
      clear hkk
      generalize sha256 k = o at *
      have HZ := Lib.hid (Blk.made w2 (ints .u8 (List.replicate 32 0)) 25)
      have HE3 := Lib.hid (HE2.out.trans (Ext.alloc w2 (.cells (ints .u8 (List.replicate 32 0)).toArray 25)))
      have HB3 := Lib.hid (HB2.out.same ((Ext.alloc w2 (.cells (ints .u8 (List.replicate 32 0)).toArray 25)).block _ HB2.out.lt))
      have HIo : Hid ((Tryd.prog.info? 25).map (·.size) = some (o.map bval).length) := Lib.hid (num_size HL.out)
      have HLo : Hid ((o.map bval).length = (ints .u8 (List.replicate 32 0)).length) := Lib.hid (by rw [List.length_map, HL.out, ints_length, List.length_replicate])
      have HS2 := Lib.hid HE2.out.size
      have HLT := Lib.hid HB2.out.lt
      go_wp2_with (refine wpList_store_blk rfl _ _ _ rfl w2.heap.size (o.map bval) rfl rfl _ _ HZ.out HLo.out HIo.out (bval_one _) ?_; intro w7 hb7 hg7)
      go_meet
      exact ⟨_, _, _, rfl, by rw [HHK.out, HL.out], by rw [HHK.out]; exact blk_row (n := 32) hb7 (by rw [List.length_map, HL.out]) (by unfold maxLen; omega), HB3.out.grown hg7 (fun e => by have h := Option.some.inj e; have := HLT.out; omega), ext_grown HE3.out hg7 HS2.out⟩
    · have h64' : ¬ (64 : Int) < (k.length : Int) := by omega
      have hkk := hKey_small (k := k) (by omega)
      go_wp2_with fail
      go_meet
      exact ⟨_, _, _, rfl, by rw [hkk], by rw [hkk]; exact HK.out.below HE0.out, HB0.out, HE0.out⟩
  case rest =>
    obtain ⟨a', n, cap', rfl, hn, hrow, hbr, hE⟩ := hcut
    clear HK HB0 HE0 r1 r2 HKL
    obtain ⟨i0, hi, hz0, hz1, hz2⟩ := info_parts Tryd.info5
    have hkl := hKey_length k
    have hpl := hPad_length hkl
    have hsp := splice_zeros 64 (hKey k)
    have hmac : hmac k m = sha256 (xTo (hPad (hKey k)) 0x5c 64 ++ sha256 (xTo (hPad (hKey k)) 0x36 64 ++ m)) := by
      rw [xTo_full 0x36 hpl, xTo_full 0x5c hpl]
      rfl
    have hpp : (hKey k) ++ List.replicate (64 - (hKey k).length) 0 = hPad (hKey k) := rfl
    rw [hpp] at hsp
    have HMAC := Lib.hid hmac
    clear hmac hpp
    generalize hPad (hKey k) = p at *
    generalize hKey k = q at *
    subst hn
    have HSP := Lib.hid hsp
    have HPL := Lib.hid hpl
    have HQL := Lib.hid hkl
    have HR := Lib.hid hrow
    have HBR := Lib.hid hbr
    have HE := Lib.hid hE
    have HS := Lib.hid hE.size
    have HBL := Lib.hid hbr.lt
    -- the two blocks
    have hmk := run_make_zeros wc 22 5 Tryd.underlying22 i0 hi hz0 hz1 hz2 64 (by omega)
    have hmk2 := run_make_zeros (wc.alloc (.cells ((zB 64).map bval).toArray 5)) 22 5 Tryd.underlying22 i0 hi hz0 hz1 hz2 64 (by omega)
    rw [show ((64 : Nat) : Int) = 64 from rfl] at hmk hmk2
    have HB2 := Lib.hid (boxes2 wc ((zB 64).map bval) ((zB 64).map bval) 5 5)
    clear hsp hpl hkl hrow hbr hE hi hz0 hz1 hz2
    go_upto_region 6 with (fail)
    change Code.wp _ _ _ _ ((wc.alloc (.cells ((zB 64).map bval).toArray 5)).alloc (.cells ((zB 64).map bval).toArray 5))
    clear hmk hmk2
    have HS2 : Hid ((wc.alloc (.cells ((zB 64).map bval).toArray 5)).heap.size = wc.heap.size + 1) := Lib.hid (by simp)
    generalize (wc.alloc (.cells ((zB 64).map bval).toArray 5)).alloc (.cells ((zB 64).map bval).toArray 5) = w2 at *
    obtain ⟨b1, b2, b3⟩ := HB2.out
    have hrw2 := HR.out.below b3
    have HSI := Lib.hid (row_src HR.out q (by rw [List.take_length]) (Nat.le_refl _) b3)
    have HN : Hid ((q.map bval).length = Nat.min q.length 64) := Lib.hid (by rw [List.length_map]; exact (Nat.min_eq_left HQL.out).symm)
    have HF : Hid (0 + (q.map bval).length ≤ ((zB 64).map bval).length) := Lib.hid (by rw [List.length_map, List.length_map, zB_length]; have := HQL.out; omega)
    obtain ⟨I, hI⟩ : ∃ I, I = wc.heap.size := ⟨_, rfl⟩
    have hs2 := HS2.out
    rw [← hI] at b1 b2 b3 hs2
    rw [← hI]
    have H1 := Lib.hid (b1 : w2.heap[I]? = some (.cells ((zB 64).map bval).toArray 5 (0, 0)))
    have H2 := Lib.hid b2
    have HE2 : Hid (Ext w w2) := Lib.hid (HE.out.trans (by rw [hI] at b3; exact b3))
    have HBR2 : Hid (Blk w2 w.heap.size (ints .u8 (List.replicate 32 0)) 25) := Lib.hid (HBR.out.same (b3.block _ (by have := HBL.out; omega)))
    have HIW : Hid (w.heap.size < I) := Lib.hid (by have := HBL.out; omega)
    have HEC : Hid (Ext wc w2) := Lib.hid (by rw [hI] at b3; exact b3)
    have HIC := Lib.hid hI
    clear b1 b2 b3 hrw2 HB2 HS2 hs2 HE HBR hI
    have H1 : Hid (Blk w2 I ((zB 64).map bval) 5) := Lib.hid H1.out
    go_upto_region 7 with (refine wpList_copy_blk rfl (.tmp 18) (.tmp 19) 22 22 rfl 5 Tryd.underlying22 one_u8 (some ⟨I, 0, none⟩) a' 64 64 q.length cap' rfl rfl I 0 ((zB 64).map bval) 5 H1.out (q.map bval) HN.out (fun h => ⟨rfl, HSI.out h⟩) HF.out (bval_one _) ?_; intro w3 hc3 hg3)
    rw [HSP.out] at hc3
    have HE3 : Hid (Ext w w3) := Lib.hid (ext_grown HE2.out hg3 (by have := HIW.out; omega))
    have H23 := Lib.hid (H2.out.grown hg3 (fun e => by have h := Option.some.inj e; omega))
    have HBR3 := Lib.hid (HBR2.out.grown hg3 (fun e => by have h := Option.some.inj e; have := HIW.out; omega))
    have HSI3 := Lib.hid (row_src HR.out q (by rw [List.take_length]) (Nat.le_refl _) (ext_grown HEC.out hg3 (by rw [HIC.out]; exact Nat.le_refl _)))
    have H13 : Hid (Blk w3 I (p.map bval) 5) := Lib.hid hc3
    clear hc3 hg3 H1 H2 HE2 HBR2 HSI HEC HR
    simp only [Act.put, List.setIfInBounds_toArray, List.set_cons_zero, List.set_cons_succ]
    go_upto_region 8 with (refine wpList_copy_blk rfl (.tmp 21) (.tmp 22) 22 22 rfl 5 Tryd.underlying22 one_u8 (some ⟨I + 1, 0, none⟩) a' 64 64 q.length cap' rfl rfl (I + 1) 0 ((zB 64).map bval) 5 H23.out (q.map bval) HN.out (fun h => ⟨rfl, HSI3.out h⟩) HF.out (bval_one _) ?_; intro w4 hc4 hg4)
    simp only [Act.put, List.setIfInBounds_toArray, List.set_cons_zero, List.set_cons_succ]
    rw [HSP.out] at hc4
    have HE4 : Hid (Ext w w4) := Lib.hid (ext_grown HE3.out hg4 (by have := HIW.out; omega))
    have H14 := Lib.hid (H13.out.grown hg4 (fun e => by have h := Option.some.inj e; omega))
    have H24 : Hid (Blk w4 (I + 1) (p.map bval) 5) := Lib.hid hc4
    have HBR4 := Lib.hid (HBR3.out.grown hg4 (fun e => by have h := Option.some.inj e; have := HIW.out; omega))
    clear hc4 hg4 H13 H23 HE3 HBR3 HSI3 HF HN HSP
    go_wp2_with fail
    go_loopw [8] (fun iv wr => ∃ (j : Nat), j ≤ 64 ∧ iv = .int .i64 (j : Int) ∧ Blk wr I ((xTo p 0x36 j).map bval) 5 ∧ Blk wr (I + 1) ((xTo p 0x5c j).map bval) 5 ∧ Blk wr w.heap.size (ints .u8 (List.replicate 32 0)) 25 ∧ Ext w wr) (fun iv _ => 64 - (intOf iv).toNat)
    case atStart => exact ⟨0, by omega, rfl, by rw [xTo_zero]; exact H14.out, by rw [xTo_zero]; exact H24.out, HBR4.out, HE4.out⟩
    case round =>
      clear H14 H24 HBR4 HE4
      obtain ⟨j, hj, rfl, hb1, hb2, hbr, hbel⟩ := hrel
      have k0 : (0 : Int) ≤ (j : Int) := Int.natCast_nonneg _
      by_cases hlj : j < 64
      · have k1 : (j : Int) < 64 := by omega
        have hjp : j < p.length := by rw [HPL.out]; exact hlj
        have c1 := hb1.cell j
        rw [bval_get (by rw [xTo_length]; exact hjp), xTo_getD p _ j hjp] at c1
        have c2 := hb2.cell j
        rw [bval_get (by rw [xTo_length]; exact hjp), xTo_getD p _ j hjp] at c2
        have f1 := hb1.free j
        have f2 := hb2.free j
        have x1 := xor_u8 (p.getD j 0) 0x36
        have x2 := xor_u8 (p.getD j 0) 0x5c
        rw [show (((0x36 : UInt8).toNat : Nat) : Int) = 54 from rfl] at x1
        rw [show (((0x5c : UInt8).toNat : Nat) : Int) = 92 from rfl] at x2
        have HX1 := Lib.hid (xTo_set p 0x36 j hjp)
        have HX2 := Lib.hid (xTo_set p 0x5c j hjp)
        have B1 := Lib.hid hb1
        have B2 := Lib.hid hb2
        have BR := Lib.hid hbr
        have HE := Lib.hid hbel
        generalize hy1 : p.getD j 0 ^^^ 0x36 = y1 at *
        generalize hy2 : p.getD j 0 ^^^ 0x5c = y2 at *
        clear hb1 hb2 hbr hbel hy1 hy2
        obtain ⟨y, hy⟩ : ∃ y, y = p.getD j 0 := ⟨_, rfl⟩
        rw [← hy] at x1 x2 c1 c2
        have HY := Lib.hid hy
        clear hy
        go_upto_region 12 with (fail)
        change Code.wp _ _ _ _ (wr.setCell ⟨I, j, none⟩ (bval y1))
        have B1 : Hid (Blk (wr.setCell ⟨I, j, none⟩ (bval y1)) I ((xTo p 0x36 (j + 1)).map bval) 5) := Lib.hid (by rw [← HX1.out, List.map_set]; exact B1.out.set j _)
        have B2 := Lib.hid (B2.out.far (a := ⟨I, j, none⟩) (by simp) (bval y1))
        have BR := Lib.hid (BR.out.far (a := ⟨I, j, none⟩) (by have := HIW.out; simp; omega) (bval y1))
        have HE : Hid (Ext w (wr.setCell ⟨I, j, none⟩ (bval y1))) := Lib.hid (Below.setCell HE.out (by have := HIW.out; simp; omega) _)
        generalize wr.setCell ⟨I, j, none⟩ (bval y1) = ws at *
        have c2 := B2.out.cell j
        rw [bval_get (by rw [xTo_length]; exact hjp), xTo_getD p _ j hjp, ← HY.out] at c2
        have f2 := B2.out.free j
        go_wp2_with fail
        go_roundw
        case rel =>
          refine ⟨j + 1, by omega, by go_num, B1.out.far (by simp) _, ?_, BR.out.far (by have := HIW.out; simp; omega) _, Below.setCell HE.out (by have := HIW.out; simp; omega) _⟩
          rw [← HX2.out, List.map_set]
          exact B2.out.set j _
        case measure => simp [intOf]; omega
      · have hj64 : j = 64 := by omega
        subst hj64
        have HX1L : ((xTo p 0x36 64).map bval).length = 64 := by rw [List.length_map, xTo_length]; exact HPL.out
        have HX2L : ((xTo p 0x5c 64).map bval).length = 64 := by rw [List.length_map, xTo_length]; exact HPL.out
        have HO1 := Lib.hid (own_blk (base := I) hb1 (Nat.le_refl _) HX1L (by unfold maxLen; omega))
        have HB2 := Lib.hid hb2
        have HBR := Lib.hid hbr
        have HE := Lib.hid hbel
        have HS := Lib.hid hbel.size
        have HIS : Hid (I ≤ wr.heap.size) := Lib.hid (Nat.le_of_lt hb1.lt)
        have HX1L := Lib.hid HX1L
        have HX2L := Lib.hid HX2L
        have HMR := Lib.hid (HM.out.below hbel)
        have HMM : Hid ((m.map bval).length = m.length) := Lib.hid (List.length_map _)
        obtain ⟨i0, hi, hz0, hz1, hz2⟩ := info_parts Tryd.info5
        have HI0 := Lib.hid hi
        have HZ0 := Lib.hid hz0
        have HZ1 := Lib.hid hz1
        have HZ2 := Lib.hid hz2
        clear hb1 hb2 hbr hbel hi hz0 hz1 hz2
        go_wp2_with (at_builtin; refine wpList_append_row rfl _ _ 22 rfl I 5 i0 (.int .u8 0) 1 Tryd.underlying22 HI0.out HZ0.out HZ1.out HZ2.out rfl _ 64 _ rfl HO1.out rfl HMR.out (bval_one _) (by have := HML.out; rw [HMM.out]; unfold maxLen; omega) (by have := HML.out; rw [HMM.out]; omega) HIS.out ?_; intro v3 w3 hown3 hgrow3)
        have hgrow3 : wr.grownBy w3 (some I) := hgrow3
        have HE3 := Lib.hid (ext_own HE.out HO1.out (by have := HIW.out; omega) hgrow3)
        have HB23 := Lib.hid (HB2.out.grown hgrow3 (fun h => by have := Option.some.inj h; omega))
        have HBR3 := Lib.hid (HBR.out.grown hgrow3 (fun h => by have := Option.some.inj h; have := HIW.out; omega))
        rw [← List.map_append] at hown3
        refine (rSha_any _ (xTo p 0x36 64 ++ m) _ (Row1.of_own hown3) (by rw [List.length_append]; have := HX1L.out; rw [List.length_map] at this; have := HML.out; omega) (HG.out.ext HE3.out)).mono ?_
        rintro e w4 ⟨rfl, hb⟩
        have HE4 := Lib.hid (HE3.out.trans hb)
        have HB24 := Lib.hid (HB23.out.same (hb.block _ HB23.out.lt))
        have HBR4 := Lib.hid (HBR3.out.same (hb.block _ HBR3.out.lt))
        have HIS4 : Hid (I ≤ w4.heap.size) := Lib.hid (by have := HB24.out.lt; omega)
        clear hb hown3 hgrow3 HE3 HB23 HBR3 HB2 HBR HE HO1 HX1L HMR HS
        have HL := Lib.hid (sha256_length (xTo p 0x36 64 ++ m))
        generalize sha256 (xTo p 0x36 64 ++ m) = o at *
        have HZ := Lib.hid (Blk.made w4 (ints .u8 (List.replicate 32 0)) 25)
        have HA := Ext.alloc w4 (.cells (ints .u8 (List.replicate 32 0)).toArray 25)
        have HE5 := Lib.hid (HE4.out.trans HA)
        have HB25 := Lib.hid (HB24.out.same (HA.block _ HB24.out.lt))
        have HBR5 := Lib.hid (HBR4.out.same (HA.block _ HBR4.out.lt))
        have HIo : Hid ((Tryd.prog.info? 25).map (·.size) = some (o.map bval).length) := Lib.hid (num_size HL.out)
        have HLo : Hid ((o.map bval).length = (ints .u8 (List.replicate 32 0)).length) := Lib.hid (by rw [List.length_map, HL.out, ints_length, List.length_replicate])
        have HS4 := Lib.hid HE4.out.size
        have HBL4 := Lib.hid HBR4.out.lt
        have HBI4 := Lib.hid HB24.out.lt
        go_upto_region 14 with (refine wpList_store_blk rfl _ _ _ rfl w4.heap.size (o.map bval) rfl rfl _ _ HZ.out HLo.out HIo.out (bval_one _) ?_; intro w7 hb7 hg7)
        have HE7 := Lib.hid (ext_grown HE5.out hg7 HS4.out)
        have HB27 := Lib.hid (HB25.out.grown hg7 (fun h => by have := Option.some.inj h; have := HBI4.out; omega))
        have HBR7 := Lib.hid (HBR5.out.grown hg7 (fun h => by have := Option.some.inj h; have := HBL4.out; omega))
        have HR7 := Lib.hid (blk_row (n := 32) hb7 (by rw [List.length_map, HL.out]) (by unfold maxLen; omega))
        have HO2 := Lib.hid (own_blk (base := I + 1) HB27.out (Nat.le_refl _) HX2L.out (by unfold maxLen; omega))
        have HI7 : Hid (I + 1 ≤ w7.heap.size) := Lib.hid (by have := HB27.out.lt; omega)
        have HL2 : Hid ((o.map bval).length = 32) := Lib.hid (by rw [List.length_map, HL.out])
        generalize w4.heap.size = g9 at *
        clear hb7 hg7 HZ HA HB24 HB25 HBR4 HBR5 HE4 HE5 HS4 HBL4 HBI4 HIS4 HIS HLo
        go_wp2_with (at_builtin; refine wpList_append_row rfl _ _ 22 rfl (I + 1) 5 i0 (.int .u8 0) 1 Tryd.underlying22 HI0.out HZ0.out HZ1.out HZ2.out rfl _ 64 _ rfl HO2.out rfl HR7.out (bval_one _) (by rw [HL2.out]; unfold maxLen; omega) (by rw [HL2.out]; omega) HI7.out ?_; intro v8 w8 hown8 hgrow8)
        have hgrow8 : w7.grownBy w8 (some (I + 1)) := hgrow8
        have HE8 := Lib.hid (ext_own HE7.out HO2.out (by have := HIW.out; omega) hgrow8)
        have HBR8 := Lib.hid (HBR7.out.grown hgrow8 (fun h => by have := Option.some.inj h; have := HIW.out; omega))
        rw [← List.map_append] at hown8
        refine (rSha_any _ (xTo p 0x5c 64 ++ o) _ (Row1.of_own hown8) (by rw [List.length_append, HL.out]; have := HX2L.out; rw [List.length_map] at this; omega) (HG.out.ext HE8.out)).mono ?_
        rintro e w9 ⟨rfl, hb⟩
        have HE9 := Lib.hid (HE8.out.trans hb)
        have HBR9 := Lib.hid (HBR8.out.same (hb.block _ HBR8.out.lt))
        rw [← HMAC.out]
        clear hb hown8 hgrow8 HE8 HBR8 HE7 HBR7 HB27 HR7 HO2 HI7 HL2 HIo HL HX2L
        obtain ⟨o2, ho2⟩ : ∃ o2, o2 = hmac k m := ⟨_, rfl⟩
        rw [← ho2]
        have HL : Hid (o2.length = 32) := Lib.hid (by rw [ho2]; exact hmac_length k m)
        have HO2 := Lib.hid ho2
        clear ho2
        have HIo : Hid ((Tryd.prog.info? 25).map (·.size) = some (o2.map bval).length) := Lib.hid (num_size HL.out)
        have HLo : Hid ((o2.map bval).length = (ints .u8 (List.replicate 32 0)).length) := Lib.hid (by rw [List.length_map, HL.out, ints_length, List.length_replicate])
        go_wp2_with (refine wpList_store_blk rfl _ _ _ rfl w.heap.size (o2.map bval) rfl rfl _ _ HBR9.out HLo.out HIo.out (bval_one _) ?_; intro w10 hb10 hg10)
        refine bodyPost_ret (result_blk rfl _ w.heap.size _ _ _ _ rfl hb10 Tryd.underlying25 HIo.out) rfl ?_
        exact ⟨by rw [HO2.out], ext_grown HE9.out hg10 (Nat.le_refl _)⟩

end Go.Proofs.YtcfmobgnlejpeaaDoor

/- Further ends of a drawn region: two variables made in whatever order; a store and an assignment. Nothing here speaks of a program. Each theorem names its own conditions. -/
namespace Go.Proofs.YtcfmobgnlejpeaaDoor
open Go.RowKit
set_option linter.unusedVariables false

section
variable {P : Program} {ops : Array Oper} {Q : Exit → Act → World → Prop} {md : Region.Mode} {t : Nat} {C : World → Prop} {D : Act → Prop}

theorem run_alloc_zero {o : Oper} {a : Act} {ty : TypeId} {zs : List Value} (ho : o.op = .alloc ty) (hz : ∀ w, (zeroValue ty).run P w = .ok (.agg zs.toArray) w) (w : World) :
    (execOp a.eval o).run P w = .ok (.value (.pointer (some ⟨w.heap.size, 0, none⟩))) (w.alloc (.cells zs.toArray ty)) := by
  unfold execOp
  simp [ho, Instr.alloc, hz, newVar, newRow, Value.cells]

/-- The two stores into two variables that stand apart. -/
theorem two_stores {k : Nat} {o3 o4 : Oper} {listed : Array Bool} {a : Act} {w w' : World} (ty : TypeId) (d1 d2 p q : Nat) (y1 y2 : Operand) (zs vs1 vs2 : List Value) (hk3 : ops[k]? = some o3) (hk4 : ops[k + 1]? = some o4)
    (hr : Region.ready md ops listed = [k]) (hr2 : Region.ready md ops (listed.setIfInBounds k true) = [k + 1]) (hr3 : Region.ready md ops ((listed.setIfInBounds k true).setIfInBounds (k + 1) true) = [])
    (hg3 : o3.guard = none) (hg4 : o4.guard = none) (ho3 : o3.op = .store ty (.tmp d1) y1) (ho4 : o4.op = .store ty (.tmp d2) y2) (hn3 : o3.dst = none) (hn4 : o4.dst = none)
    (hx1 : a.eval (.tmp d1) = .pointer (some ⟨p, 0, none⟩)) (hx2 : a.eval (.tmp d2) = .pointer (some ⟨q, 0, none⟩)) (hy1 : a.eval y1 = .agg vs1.toArray) (hy2 : a.eval y2 = .agg vs2.toArray) (hpq : p ≠ q)
    (hb1 : Blk w' p zs ty) (hb2 : Blk w' q zs ty) (hl1 : vs1.length = zs.length) (hl2 : vs2.length = zs.length) (hi1 : (P.info? ty).map (·.size) = some vs1.length) (hi2 : (P.info? ty).map (·.size) = some vs2.length)
    (h1 : ∀ v ∈ vs1, v.oneCell' = true) (h2 : ∀ v ∈ vs2, v.oneCell' = true) (he : Ext w w') (hp : w.heap.size ≤ p) (hq : w.heap.size ≤ q)
    (h : ∀ w4, Blk w4 p vs1 ty → Blk w4 q vs2 ty → Ext w w4 → Q .normal a w4) : wpAny P md ops Q 2 listed a w' := by
  refine ⟨fun h0 => (by rw [hr] at h0; cases h0), fun i hi => ?_⟩
  rw [hr] at hi
  obtain rfl : i = k := by simpa using hi
  unfold wpOp
  simp only [hk3, Region.wanted, hg3, if_true]
  left
  refine wp_store_blk ty (.tmp d1) y1 ho3 p vs1 hx1 hy1 ty zs hb1 hl1 hi1 h1 fun w2 hb3 hg => ?_
  rw [hn3]
  refine ⟨fun h0 => (by rw [hr2] at h0; cases h0), fun j hj => ?_⟩
  rw [hr2] at hj
  obtain rfl : j = i + 1 := by simpa using hj
  unfold wpOp
  simp only [hk4, Region.wanted, hg4, if_true]
  left
  refine wp_store_blk ty (.tmp d2) y2 ho4 q vs2 hx2 hy2 ty zs (hb2.grown hg (by simpa using hpq)) hl2 hi2 h2 fun w4 hb4 hg4 => ?_
  rw [hn4]
  exact ⟨hr3, h w4 (hb3.grown hg4 (by simpa using fun e => hpq e.symm)) hb4 (ext_grown (ext_grown he hg hp) hg4 hq)⟩

/-- Two variables are made, in whatever order, and a whole array stored into each: the region's end. -/
theorem end_var2 {k : Nat} {o1 o2 o3 o4 : Oper} {listed : Array Bool} {a : Act} {w : World} (ty : TypeId) (d1 d2 : Nat) (y1 y2 : Operand) (zs vs1 vs2 : List Value)
    (hk1 : ops[k]? = some o1) (hk2 : ops[k + 1]? = some o2) (hk3 : ops[k + 2]? = some o3) (hk4 : ops[k + 2 + 1]? = some o4)
    (hr : Region.ready md ops listed = [k, k + 1]) (hr1 : Region.ready md ops (listed.setIfInBounds k true) = [k + 1]) (hr2 : Region.ready md ops (listed.setIfInBounds (k + 1) true) = [k])
    (hr3 : Region.ready md ops ((listed.setIfInBounds k true).setIfInBounds (k + 1) true) = [k + 2]) (hr4 : Region.ready md ops (((listed.setIfInBounds k true).setIfInBounds (k + 1) true).setIfInBounds (k + 2) true) = [k + 2 + 1])
    (hr5 : Region.ready md ops ((((listed.setIfInBounds k true).setIfInBounds (k + 1) true).setIfInBounds (k + 2) true).setIfInBounds (k + 2 + 1) true) = [])
    (hd : doneB t listed = false) (hd1 : doneB t (listed.setIfInBounds k true) = false) (hd2 : doneB t (listed.setIfInBounds (k + 1) true) = false) (hd3 : doneB t ((listed.setIfInBounds k true).setIfInBounds (k + 1) true) = true)
    (hg1 : o1.guard = none) (hg2 : o2.guard = none) (hg3 : o3.guard = none) (hg4 : o4.guard = none) (ho1 : o1.op = .alloc ty) (ho2 : o2.op = .alloc ty) (hd1' : o1.dst = some d1) (hd2' : o2.dst = some d2) (hdd : d1 ≠ d2)
    (hz : ∀ w, (zeroValue ty).run P w = .ok (.agg zs.toArray) w) (ho3 : o3.op = .store ty (.tmp d1) y1) (ho4 : o4.op = .store ty (.tmp d2) y2) (hn3 : o3.dst = none) (hn4 : o4.dst = none) (hs1 : d1 < a.tmps.size) (hs2 : d2 < a.tmps.size)
    (hy1 : ∀ p q, ((a.put (some d1) (.pointer (some ⟨p, 0, none⟩))).put (some d2) (.pointer (some ⟨q, 0, none⟩))).eval y1 = .agg vs1.toArray)
    (hy2 : ∀ p q, ((a.put (some d1) (.pointer (some ⟨p, 0, none⟩))).put (some d2) (.pointer (some ⟨q, 0, none⟩))).eval y2 = .agg vs2.toArray)
    (hl1 : vs1.length = zs.length) (hl2 : vs2.length = zs.length) (hi1 : (P.info? ty).map (·.size) = some vs1.length) (hi2 : (P.info? ty).map (·.size) = some vs2.length) (h1 : ∀ v ∈ vs1, v.oneCell' = true) (h2 : ∀ v ∈ vs2, v.oneCell' = true)
    (h : ∀ p q w', p ≠ q → w.heap.size ≤ p → w.heap.size ≤ q → Blk w' p vs1 ty → Blk w' q vs2 ty → Ext w w' → Q .normal ((a.put (some d1) (.pointer (some ⟨p, 0, none⟩))).put (some d2) (.pointer (some ⟨q, 0, none⟩))) w') :
    wpAnyB P md ops Q t 4 listed a w.drew := by
  have tail : ∀ p q w', Blk w' p zs ty → Blk w' q zs ty → p ≠ q → w.heap.size ≤ p → w.heap.size ≤ q → Ext w w' →
      wpAny P md ops Q 2 ((listed.setIfInBounds k true).setIfInBounds (k + 1) true) ((a.put (some d1) (.pointer (some ⟨p, 0, none⟩))).put (some d2) (.pointer (some ⟨q, 0, none⟩))) w' := by
    intro p q w' b1 b2 hpq hp hq he
    refine two_stores ty d1 d2 p q y1 y2 zs vs1 vs2 hk3 hk4 hr3 hr4 hr5 hg3 hg4 ho3 ho4 hn3 hn4 ?_ ?_ (hy1 p q) (hy2 p q) hpq b1 b2 hl1 hl2 hi1 hi2 h1 h2 he hp hq (fun w4 b3 b4 e4 => h p q w4 hpq hp hq b3 b4 e4)
    · simp [Act.eval, Act.put, hs1, Ne.symm hdd]
    · simp [Act.eval, Act.put, hs2]
  refine ⟨fun h0 => (by rw [hd] at h0; cases h0), fun _ w1 hw1 => ⟨by rw [hr]; simp, fun i hi => ?_⟩⟩
  rw [hr] at hi
  have he1 : Ext w w1 := (Ext.drew w).trans hw1
  simp only [List.mem_cons, List.not_mem_nil, or_false] at hi
  rcases hi with rfl | rfl
  · unfold wpOp
    simp only [hk1, Region.wanted, hg1, if_true]
    left
    unfold Oper.wp
    rw [run_alloc_zero ho1 hz]
    simp only [Oper.upon, hd1']
    refine ⟨Ext.alloc _ _, fun h0 => (by rw [hd1] at h0; cases h0), fun _ w2 hw2 => ⟨by rw [hr1]; simp, fun j hj => ?_⟩⟩
    rw [hr1] at hj
    obtain rfl : j = i + 1 := by simpa using hj
    have hb1 : Blk w2 w1.heap.size zs ty := ext_blk (Blk.made w1 zs ty) hw2
    unfold wpOp
    simp only [hk2, Region.wanted, hg2, if_true]
    left
    unfold Oper.wp
    rw [run_alloc_zero ho2 hz]
    simp only [Oper.upon, hd2']
    refine ⟨Ext.alloc _ _, fun _ w3 hw3 => ?_, fun h0 => (by rw [hd3] at h0; cases h0)⟩
    refine tail _ _ w3 (ext_blk (ext_blk hb1 (Ext.alloc w2 _)) hw3) (ext_blk (Blk.made w2 zs ty) hw3) (by have := hb1.lt; omega) he1.size (Nat.le_trans he1.size (Nat.le_of_lt hb1.lt)) (((he1.trans (Ext.alloc _ _)).trans hw2).trans ((Ext.alloc _ _).trans hw3))
  · unfold wpOp
    simp only [hk2, Region.wanted, hg2, if_true]
    left
    unfold Oper.wp
    rw [run_alloc_zero ho2 hz]
    simp only [Oper.upon, hd2']
    refine ⟨Ext.alloc _ _, fun h0 => (by rw [hd2] at h0; cases h0), fun _ w2 hw2 => ⟨by rw [hr2]; simp, fun j hj => ?_⟩⟩
    rw [hr2] at hj
    obtain rfl : j = k := by simpa using hj
    have hb1 : Blk w2 w1.heap.size zs ty := ext_blk (Blk.made w1 zs ty) hw2
    unfold wpOp
    simp only [hk1, Region.wanted, hg1, if_true]
    left
    unfold Oper.wp
    rw [run_alloc_zero ho1 hz]
    simp only [Oper.upon, hd1']
    rw [Array.setIfInBounds_comm _ _ (by omega : j + 1 ≠ j), Act.put_comm a _ _ (by simpa using fun e => hdd e)]
    refine ⟨Ext.alloc _ _, fun _ w3 hw3 => ?_, fun h0 => (by rw [hd3] at h0; cases h0)⟩
    refine tail _ _ w3 (ext_blk (Blk.made w2 zs ty) hw3) (ext_blk (ext_blk hb1 (Ext.alloc w2 _)) hw3) (by have := hb1.lt; omega) (Nat.le_trans he1.size (Nat.le_of_lt hb1.lt)) he1.size (((he1.trans (Ext.alloc _ _)).trans hw2).trans ((Ext.alloc _ _).trans hw3))

/-- A whole array is stored into what stands, and a value assigned: the region's end. -/
theorem end_set_assign {k : Nat} {o o2 : Oper} {listed : Array Bool} {a : Act} {w : World} (ty tb : TypeId) (x y z : Operand) (d : Nat) (u : Value) (c : Nat) (vs cs : List Value) (hk : ops[k]? = some o) (hk2 : ops[k + 1]? = some o2) (hr : Region.ready md ops listed = [k]) (hr2 : Region.ready md ops (listed.setIfInBounds k true) = [k + 1])
    (hr3 : Region.ready md ops ((listed.setIfInBounds k true).setIfInBounds (k + 1) true) = []) (hd : doneB t listed = true) (hg : o.guard = none) (hg2 : o2.guard = none) (hn : o.dst = none)
    (ho : o.op = .store ty x y) (hx : a.eval x = .pointer (some ⟨c, 0, none⟩)) (hy : a.eval y = .agg vs.toArray) (hb : Blk w c cs tb) (hl : vs.length = cs.length) (hi : (P.info? ty).map (·.size) = some vs.length) (h1 : ∀ v ∈ vs, v.oneCell' = true)
    (ho2 : o2.op = .assign z) (hd2 : o2.dst = some d) (hz : a.eval z = u) (h : ∀ w', Blk w' c vs tb → w.grownBy w' (some c) → Q .normal (a.put (some d) u) w') : wpAnyB P md ops Q t 2 listed a w.drew := by
  refine ⟨fun _ w' hw' => ⟨fun h0 => (by rw [hr] at h0; cases h0), fun i hi' => ?_⟩, fun h0 => (by rw [hd] at h0; cases h0)⟩
  rw [hr] at hi'
  obtain rfl : i = k := by simpa using hi'
  have he : Ext w w' := (Ext.drew w).trans hw'
  unfold wpOp
  simp only [hk, Region.wanted, hg, if_true]
  left
  refine wp_store_blk ty x y ho c vs hx hy tb cs (ext_blk hb he) hl hi h1 fun w2 hb2 hg2' => ?_
  rw [hn]
  refine ⟨fun h0 => (by rw [hr2] at h0; cases h0), fun j hj => ?_⟩
  rw [hr2] at hj
  obtain rfl : j = i + 1 := by simpa using hj
  unfold wpOp
  simp only [hk2, Region.wanted, hg2, if_true]
  left
  unfold Oper.wp execOp
  have hz' : (Act.put a none undef).eval z = u := hz
  simp only [ho2, hz', Sem.run_pure, Oper.upon, hd2]
  exact ⟨hr3, h w2 hb2 (grownBy_trans (grown_of_below he _) hg2')⟩
end

end Go.Proofs.YtcfmobgnlejpeaaDoor

/- The last operations of a drawn region, one behind the other: each the only one that may come. Nothing here speaks of a program. Each theorem names its own conditions. -/
namespace Go.Proofs.YtcfmobgnlejpeaaDoor
open Go.RowKit
set_option linter.unusedVariables false

section
variable {P : Program} {ops : Array Oper} {Q : Exit → Act → World → Prop} {md : Region.Mode} {t : Nat}
/-- The first part is done: what is left, in whatever world has come of it. -/
theorem end_free {m : Nat} {listed : Array Bool} {a : Act} {w : World} (hd : doneB t listed = true) (h0 : Region.ready md ops listed ≠ []) (h : ∀ w', Ext w w' → wpAny P md ops Q (m + 1) listed a w') : wpAnyB P md ops Q t (m + 1) listed a w.drew :=
  ⟨fun _ w' hw' => h w' ((Ext.drew w).trans hw'), fun h' => by rw [hd] at h'; cases h'⟩
theorem anyB_done {m : Nat} {listed : Array Bool} {a : Act} {w : World} (hd : doneB t listed = true) (h : ∀ w', Ext w w' → wpAny P md ops Q (m + 1) listed a w') : wpAnyB P md ops Q t (m + 1) listed a w :=
  ⟨fun _ w' hw' => h w' hw', fun h' => by rw [hd] at h'; cases h'⟩
/-- One operation of the first part is owed, which leaves old memory alone. -/
theorem end_step {m k : Nat} {o : Oper} {listed : Array Bool} {a : Act} {w : World} (hk : ops[k]? = some o) (hr : Region.ready md ops listed = [k]) (hd : doneB t listed = false) (hg : o.guard = none)
    (h : ∀ w', Ext w w' → o.wp P a w' (fun a' w'' => Ext w' w'' ∧ wpAnyB P md ops Q t m (listed.setIfInBounds k true) a' w'') Q) : wpAnyB P md ops Q t (m + 1) listed a w.drew := by
  refine ⟨fun h0 => (by rw [hd] at h0; cases h0), fun _ w' hw' => ⟨by rw [hr]; simp, fun i hi => ?_⟩⟩
  rw [hr] at hi
  obtain rfl : i = k := by simpa using hi
  unfold wpOp
  simp only [hk, Region.wanted, hg, if_true]
  exact Or.inl (h w' ((Ext.drew w).trans hw'))
/-- One operation alone may come. -/
theorem any_one {m k : Nat} {o : Oper} {listed : Array Bool} {a : Act} {w : World} (hk : ops[k]? = some o) (hr : Region.ready md ops listed = [k]) (hg : o.guard = none)
    (h : o.wp P a w (fun a' w'' => wpAny P md ops Q m (listed.setIfInBounds k true) a' w'') Q) : wpAny P md ops Q (m + 1) listed a w := by
  refine ⟨fun h0 => (by rw [hr] at h0; cases h0), fun i hi => ?_⟩
  rw [hr] at hi
  obtain rfl : i = k := by simpa using hi
  unfold wpOp
  simp only [hk, Region.wanted, hg, if_true]
  exact Or.inl h
theorem any_nil {listed : Array Bool} {a : Act} {w : World} (hr : Region.ready md ops listed = []) (h : Q .normal a w) : wpAny P md ops Q 0 listed a w := ⟨hr, h⟩
theorem wp_assign {o : Oper} {a : Act} {w : World} {K : Act → World → Prop} (x : Operand) (v : Value) (ho : o.op = .assign x) (hx : a.eval x = v) (h : K (a.put o.dst v) w) : o.wp P a w K Q := by
  unfold Oper.wp execOp
  simp only [ho, hx, Sem.run_pure]
  exact h

/-- The laws, where the temporary is named. -/
theorem wp_assign_d {o : Oper} {a : Act} {w : World} {K : Act → World → Prop} (d : Option Nat) (x : Operand) (v : Value) (hd : o.dst = d) (ho : o.op = .assign x) (hx : a.eval x = v) (h : K (a.put d v) w) : o.wp P a w K Q := by
  subst hd
  exact wp_assign x v ho hx h
theorem wp_buildSlice_d {o : Oper} {a : Act} {w : World} {K : Act → World → Prop} (d : Option Nat) (t e : TypeId) (len : Nat) (parts : Array (Nat × Operand)) (hd : o.dst = d) (ho : o.op = .buildSlice t len parts)
    (cells : Array Value) (ie : TypeInfo) (z : Value)
    (hu : P.underlying t = some (.slice e)) (hie : P.info? e = some ie) (hz : ie.zero = some z) (hsmall : ¬ len * ie.size > 2 ^ 24) (hpos : ¬ len * ie.size = 0)
    (hf : Instr.fill (fun i => some (i * ie.size, ie.size)) ((Array.range (len * ie.size)).map (z.cells[· % z.cells.size]!)) (parts.map fun (i, x) => (i, a.eval x)).toList = some cells)
    (h : K (a.put d (.slice (some ⟨w.heap.size, 0, none⟩) len len)) (w.alloc (.cells cells e))) : o.wp P a w K Q := by
  subst hd
  exact wp_buildSlice t e len parts ho cells ie z hu hie hz hsmall hpos hf h
theorem wp_append_row_d {o : Oper} {a : Act} {w : World} {v : Value} {vs : List Value} {K : Act → World → Prop} (d : Option Nat) (s y : Operand) (t : TypeId) (hd : o.dst = d)
    (ho : o.op = .call { callee := .builtin .append, args := #[s, y], argTypes := #[t, t] })
    (base : Nat) (e : TypeId) (i : TypeInfo) (z : Value) (bytes : Nat) (ht : P.underlying t = some (.slice e)) (hi : P.info? e = some i) (hz : i.zero = some z)
    (hsize : i.size = 1) (hby : i.bytes = bytes) (hzs : z.cells.size = 1)
    (x : Value) (n : Nat) (xs : List Value) (hs : a.eval s = x) (hown : w.ownsRow base e 1 x n xs)
    (hx : a.eval y = v) (hv : Row1 w v vs) (h1 : ∀ u ∈ vs, u.oneCell' = true)
    (h63 : n + vs.length ≤ maxLen) (hbytes : (n + vs.length) * bytes ≤ 140737488355328) (hbase : base ≤ w.heap.size)
    (h : ∀ x' w', w'.ownsRow base e 1 x' (n + vs.length) (xs ++ vs) → w.grownBy w' x.ownBlock → K (a.put d x') w') : o.wp P a w K Q := by
  subst hd
  exact wp_append_row s y t ho base e i z bytes ht hi hz hsize hby hzs x n xs hs hown hx hv h1 h63 hbytes hbase h
/-- A value's element. -/
theorem det_vindex {C : World → Prop} {D : Act → Prop} {o : Oper} {rest : List Oper} {a : Act} (ty : TypeId) (x y : Operand) (vx vy v : Value) (hw : Region.wanted o (yielded ops a.tmps) = true) (ho : o.op = .index ty x y) (hx : a.eval x = vx) (hy : a.eval y = vy)
    (h : ∀ w, (Instr.index ty vx vy).run P w = .ok v w) (next : wpDet P ops C D rest (a.put o.dst v)) : wpDet P ops C D (o :: rest) a :=
  det_val _ hw (fun w _ => by
    unfold execOp
    simp only [ho, hx, hy, Sem.run_bind, h, Result.andThen_ok, Sem.run_pure]) next
/-- The address of a slice's element. -/
theorem det_sindex {C : World → Prop} {D : Act → Prop} {o : Oper} {rest : List Oper} {a : Act} (ty e : TypeId) (x y : Operand) (c off len cap j : Nat) (hw : Region.wanted o (yielded ops a.tmps) = true) (ho : o.op = .indexAddr ty x y) (hx : a.eval x = .slice (some ⟨c, off, none⟩) len cap) (hy : a.eval y = .int .i64 (j : Int))
    (hu : P.underlying ty = some (.slice e)) (hj : j < len) (hs : ∀ w, (sizeOf e).run P w = .ok 1 w)
    (next : wpDet P ops C D rest (a.put o.dst (.pointer (some ⟨c, off + j, none⟩)))) : wpDet P ops C D (o :: rest) a :=
  det_val _ hw (fun w _ => by
    have h1 : (0 : Int) ≤ (j : Int) ∧ (j : Int) < (len : Int) := by omega
    unfold execOp
    simp [ho, hx, hy, Instr.indexAt, asIntOf, run_underlying hu, Instr.sureAddr, h1, hs, WideShapes.add_plain, hj]) next
end

end Go.Proofs.YtcfmobgnlejpeaaDoor

/- What may be taken first in a drawn region in which calls and new memory stand in a chain. Nothing here speaks of a program. Each theorem names its own conditions. -/
namespace Go.Proofs.YtcfmobgnlejpeaaDoor
open Go.RowKit
set_option linter.unusedVariables false

section
variable {P : Program} {ops : Array Oper} {S : World → Prop}
theorem yi_val {o : Oper} {a : Act} (v : Value) (hw : Region.wanted o (yielded ops a.tmps) = true) (h : ∀ w, S w → (execOp a.eval o).run P w = .ok (.value v) w) : YieldsIf P ops S o v a := Or.inl ⟨hw, h⟩
theorem yi_skip {o : Oper} {a : Act} (hw : Region.wanted o (yielded ops a.tmps) = false) : YieldsIf P ops S o undef a := Or.inr ⟨hw, rfl⟩
theorem yi_move {o : Oper} {a : Act} (x : Operand) (v : Value) (hw : Region.wanted o (yielded ops a.tmps) = true) (ho : o.op = .move x) (hx : a.eval x = v) : YieldsIf P ops S o v a :=
  yi_val v hw (fun w _ => by unfold execOp; simp only [ho, hx, Sem.run_pure])
theorem yi_assign {o : Oper} {a : Act} (x : Operand) (v : Value) (hw : Region.wanted o (yielded ops a.tmps) = true) (ho : o.op = .assign x) (hx : a.eval x = v) : YieldsIf P ops S o v a :=
  yi_val v hw (fun w _ => by unfold execOp; simp only [ho, hx, Sem.run_pure])
theorem yi_pick {o : Oper} {a : Act} (c x y : Operand) (b : Bool) (v : Value) (hw : Region.wanted o (yielded ops a.tmps) = true) (ho : o.op = .pick c x y) (hc : a.eval c = .bool b) (hx : (if b then a.eval x else a.eval y) = v) : YieldsIf P ops S o v a :=
  yi_val v hw (fun w _ => by
    unfold execOp
    cases b <;> simp only [ho, hc, Bool.false_eq_true, if_false, if_true] at hx ⊢ <;> simp [asBool, hx])
theorem yi_eql {o : Oper} {a : Act} (ty rt e : TypeId) (x y : Operand) (n : Nat) (i : TypeInfo) (xs ys : List UInt8) (r : Bool) (hw : Region.wanted o (yielded ops a.tmps) = true) (ho : o.op = .binOp .eql ty x y rt) (hb : decide (xs = ys) = r)
    (hu : P.underlying ty = some (.array n e)) (he : P.underlying e = some (.int .u8)) (hi : P.info? e = some i) (hc : P.cellsOf e = 1) (hg : P.eqGuardType P.depth ty = false)
    (hx : a.eval x = .agg (xs.map bval).toArray) (hy : a.eval y = .agg (ys.map bval).toArray) (lx : xs.length = n) (ly : ys.length = n) : YieldsIf P ops S o (.bool r) a :=
  yi_val _ hw (fun w _ => by
    have h1 := run_equal_bytes hu he hi hc xs ys lx ly w
    rw [hb] at h1
    unfold execOp
    simp [ho, hx, hy, eqGuard, hg, binOp, h1])
/-- A slice, whose run is known. -/
theorem yi_slice {o : Oper} {a : Act} (t : TypeId) (x : Operand) (lo hi : Option Operand) (vx v : Value) (vlo vhi : Option Value) (hw : Region.wanted o (yielded ops a.tmps) = true) (ho : o.op = .slice t x lo hi none) (hx : a.eval x = vx) (hlo : lo.map a.eval = vlo) (hhi : hi.map a.eval = vhi)
    (h : ∀ w, (Instr.sliceAt t vx vlo vhi none).run P w = .ok v w) : YieldsIf P ops S o v a :=
  yi_val v hw (fun w _ => by
    unfold execOp
    simp only [ho, hx, hlo, hhi, Option.map_none, Sem.run_bind, h, Result.andThen_ok, Sem.run_pure])
theorem step_wp {o : Oper} {a : Act} {w : World} {K : Act → World → Prop} {Q : Exit → Act → World → Prop} {E : Prop} (hw : Region.wanted o (yielded ops a.tmps) = true) (h : Oper.wp P o a w K Q) : if Region.wanted o (yielded ops a.tmps) = true then Oper.wp P o a w K Q else E := by
  rw [if_pos hw]
  exact h
end

end Go.Proofs.YtcfmobgnlejpeaaDoor

/- Further operations that may be taken first in a drawn region in which calls and new memory stand in a chain: lengths, texts of bytes, comparisons, not. Nothing here speaks of a program. Each theorem names its own conditions. -/
namespace Go.Proofs.YtcfmobgnlejpeaaDoor
open Go.RowKit
set_option linter.unusedVariables false
set_option linter.unusedSimpArgs false

section
variable {P : Program} {ops : Array Oper} {S : World → Prop}
theorem yi_len {o : Oper} {a : Act} (x : Operand) (t e : TypeId) (ad : Option Addr) (n c : Nat) (ht : P.underlying t = some (.slice e)) (hw : Region.wanted o (yielded ops a.tmps) = true) (ho : o.op = .call { callee := .builtin .len, args := #[x], argTypes := #[t] }) (hx : a.eval x = .slice ad n c) : YieldsIf P ops S o (.int .i64 (n : Int)) a :=
  yi_val _ hw (fun w _ => by
    unfold execOp
    simp [ho, resolve, invoke, builtin, hx, Builtin.len_, run_underlying ht, goInt, Result.andThen])
theorem yi_not {o : Oper} {a : Act} (ty : TypeId) (x : Operand) (b : Bool) (hw : Region.wanted o (yielded ops a.tmps) = true) (ho : o.op = .unOp .not ty x) (hx : a.eval x = .bool b) : YieldsIf P ops S o (.bool !b) a :=
  yi_val _ hw (fun w _ => by
    unfold execOp
    simp [ho, hx, Op.unary, Result.andThen])
theorem yi_eqb {o : Oper} {a : Act} (ty rt : TypeId) (x y : Operand) (b c r : Bool) (hr : (b == c) = r) (hu : P.underlying ty = some .bool) (hw : Region.wanted o (yielded ops a.tmps) = true) (ho : o.op = .binOp .eql ty x y rt) (hx : a.eval x = .bool b) (hy : a.eval y = .bool c) : YieldsIf P ops S o (.bool r) a :=
  yi_val _ hw (fun w _ => by
    unfold execOp
    simp only [ho, hx, hy]
    simp [eqGuard, binOp, run_equal_bools hu, hr])
/-- A text of bytes, whose run is known. -/
theorem yi_conv {o : Oper} {a : Act} (s t : TypeId) (x : Operand) (vx v : Value) (hw : Region.wanted o (yielded ops a.tmps) = true) (ho : o.op = .convert s t x) (hx : a.eval x = vx) (h : ∀ w, S w → (convert s t vx).run P w = .ok v w) : YieldsIf P ops S o v a :=
  yi_val v hw (fun w hS => by
    unfold execOp
    simp only [ho, hx, Sem.run_bind, h w hS, Result.andThen_ok, Sem.run_pure])
theorem yi_eqi {o : Oper} {a : Act} (k : IntKind) (ty rt : TypeId) (x y : Operand) (b c : Int) (r : Bool) (hr : decide (b = c) = r) (hw : Region.wanted o (yielded ops a.tmps) = true) (ho : o.op = .binOp .eql ty x y rt) (hx : a.eval x = .int k b) (hy : a.eval y = .int k c) : YieldsIf P ops S o (.bool r) a :=
  yi_val _ hw (fun w _ => by
    subst hr
    unfold execOp
    simp only [ho, hx, hy]
    simp [eqGuard, binOp, Op.intCmp, Result.andThen]
    try rw [Bool.eq_iff_iff]; simp)
theorem yi_eqt {o : Oper} {a : Act} (ty rt : TypeId) (x y : Operand) (b c : List UInt8) (r : Bool) (hr : decide (b = c) = r) (hw : Region.wanted o (yielded ops a.tmps) = true) (ho : o.op = .binOp .eql ty x y rt) (hx : a.eval x = .string ⟨b.toArray⟩) (hy : a.eval y = .string ⟨c.toArray⟩) : YieldsIf P ops S o (.bool r) a :=
  yi_val _ hw (fun w _ => by
    subst hr
    unfold execOp
    simp only [ho, hx, hy]
    simp [eqGuard, binOp, Op.stringOp, Result.andThen]
    try rw [Bool.eq_iff_iff]; simp)
theorem yi_and {o : Oper} {a : Act} (k : IntKind) (ty rt : TypeId) (x y : Operand) (m n r : Int) (hr : bits .and k m n = r) (hw : Region.wanted o (yielded ops a.tmps) = true) (ho : o.op = .binOp .and ty x y rt) (hx : a.eval x = .int k m) (hy : a.eval y = .int k n) : YieldsIf P ops S o (.int k r) a :=
  yi_val _ hw (fun w _ => by rw [← hr]; unfold execOp bits; simp [ho, hx, hy, eqGuard, binOp, Op.intBits])
theorem yi_iconv {o : Oper} {a : Act} (src dst : TypeId) (x : Operand) (k k' : IntKind) (n r : Int) (hs : (P.underlying src).isSome = true) (hd : P.underlying dst = some (.int k')) (hr : k'.wrap n = r) (hw : Region.wanted o (yielded ops a.tmps) = true) (ho : o.op = .convert src dst x) (hx : a.eval x = .int k n) : YieldsIf P ops S o (.int k' r) a :=
  yi_val _ hw (fun w _ => by
    obtain ⟨u, hu⟩ := Option.isSome_iff_exists.1 hs
    have h : (convert src dst (.int k n)).run P w = .ok (.int k' r) w := by
      simp [convert, run_underlying hu, run_underlying hd, Conv.intToInt, hr]
    unfold execOp
    simp only [ho, hx, Sem.run_bind, h, Result.andThen_ok, Sem.run_pure])
theorem wp_alloc_d {o : Oper} {a : Act} {w : World} {K : Act → World → Prop} {Q : Exit → Act → World → Prop} (d : Option Nat) (ty : TypeId) (zs : List Value) (hd : o.dst = d) (ho : o.op = .alloc ty) (hz : ∀ w, (zeroValue ty).run P w = .ok (.agg zs.toArray) w)
    (h : K (a.put d (.pointer (some ⟨w.heap.size, 0, none⟩))) (w.alloc (.cells zs.toArray ty))) : o.wp P a w K Q := by
  subst hd
  unfold Oper.wp
  rw [run_alloc_zero ho hz]
  exact h
theorem wp_conv_d {o : Oper} {a : Act} {w : World} {K : Act → World → Prop} {Q : Exit → Act → World → Prop} (d : Option Nat) (s t : TypeId) (x : Operand) (vx v : Value) (w' : World) (hd : o.dst = d) (ho : o.op = .convert s t x) (hx : a.eval x = vx) (hr : (convert s t vx).run P w = .ok v w')
    (h : K (a.put d v) w') : o.wp P a w K Q := by
  subst hd
  unfold Oper.wp execOp
  simp only [ho, hx, Sem.run_bind, hr, Result.andThen_ok, Sem.run_pure]
  exact h
theorem yi_neqB {o : Oper} {a : Act} (ty rt e : TypeId) (x y : Operand) (n : Nat) (i : TypeInfo) (xs ys : List UInt8) (r : Bool) (hw : Region.wanted o (yielded ops a.tmps) = true) (ho : o.op = .binOp .neq ty x y rt) (hb : decide (xs = ys) = !r)
    (hu : P.underlying ty = some (.array n e)) (he : P.underlying e = some (.int .u8)) (hi : P.info? e = some i) (hc : P.cellsOf e = 1) (hg : P.eqGuardType P.depth ty = false)
    (hx : a.eval x = .agg (xs.map bval).toArray) (hy : a.eval y = .agg (ys.map bval).toArray) (lx : xs.length = n) (ly : ys.length = n) : YieldsIf P ops S o (.bool r) a :=
  yi_val _ hw (fun w _ => by
    have h1 := run_equal_bytes hu he hi hc xs ys lx ly w
    rw [hb] at h1
    unfold execOp
    simp [ho, hx, hy, eqGuard, hg, binOp, h1])
theorem yi_build {o : Oper} {a : Act} (ty : TypeId) (parts : Array (Nat × Operand)) (vs : Array (Nat × Value)) (v : Value) (hr : ∀ w, (Instr.build ty vs).run P w = .ok v w) (hw : Region.wanted o (yielded ops a.tmps) = true) (ho : o.op = .build ty parts) (hp : parts.map (fun (i, x) => (i, a.eval x)) = vs) : YieldsIf P ops S o v a :=
  yi_val _ hw (fun w _ => by
    subst hp
    unfold execOp
    simp only [ho, Sem.run_bind, hr, Result.andThen_ok, Sem.run_pure])
theorem wp_make_d {o : Oper} {a : Act} {w : World} {K : Act → World → Prop} {Q : Exit → Act → World → Prop} (d : Option Nat) (t : TypeId) (x y : Operand) (vx vy v : Value) (w' : World) (hd : o.dst = d) (ho : o.op = .makeSlice t x y) (hx : a.eval x = vx) (hy : a.eval y = vy) (hr : (Instr.makeSlice t vx vy).run P w = .ok v w')
    (h : K (a.put d v) w') : o.wp P a w K Q := by
  subst hd
  unfold Oper.wp execOp
  simp only [ho, hx, hy, Sem.run_bind, hr, Result.andThen_ok, Sem.run_pure]
  exact h
theorem yi_add {o : Oper} {a : Act} (k : IntKind) (ty rt : TypeId) (x y : Operand) (m n r : Int) (hr : k.wrap (m + n) = r) (hw : Region.wanted o (yielded ops a.tmps) = true) (ho : o.op = .binOp .add ty x y rt) (hx : a.eval x = .int k m) (hy : a.eval y = .int k n) : YieldsIf P ops S o (.int k r) a :=
  yi_val _ hw (fun w _ => by unfold execOp; simp [ho, hx, hy, eqGuard, binOp, Op.intArith, hr])
theorem yi_sub {o : Oper} {a : Act} (k : IntKind) (ty rt : TypeId) (x y : Operand) (m n r : Int) (hr : k.wrap (m - n) = r) (hw : Region.wanted o (yielded ops a.tmps) = true) (ho : o.op = .binOp .sub ty x y rt) (hx : a.eval x = .int k m) (hy : a.eval y = .int k n) : YieldsIf P ops S o (.int k r) a :=
  yi_val _ hw (fun w _ => by unfold execOp; simp [ho, hx, hy, eqGuard, binOp, Op.intArith, hr])
theorem yi_mul {o : Oper} {a : Act} (k : IntKind) (ty rt : TypeId) (x y : Operand) (m n r : Int) (hr : k.wrap (m * n) = r) (hw : Region.wanted o (yielded ops a.tmps) = true) (ho : o.op = .binOp .mul ty x y rt) (hx : a.eval x = .int k m) (hy : a.eval y = .int k n) : YieldsIf P ops S o (.int k r) a :=
  yi_val _ hw (fun w _ => by unfold execOp; simp [ho, hx, hy, eqGuard, binOp, Op.intArith, hr])
theorem yi_net {o : Oper} {a : Act} (ty rt : TypeId) (x y : Operand) (b c : List UInt8) (r : Bool) (hr : decide (b = c) = !r) (hw : Region.wanted o (yielded ops a.tmps) = true) (ho : o.op = .binOp .neq ty x y rt) (hx : a.eval x = .string ⟨b.toArray⟩) (hy : a.eval y = .string ⟨c.toArray⟩) : YieldsIf P ops S o (.bool r) a :=
  yi_val _ hw (fun w _ => by
    have hr2 : r = !decide (b = c) := by rw [hr, Bool.not_not]
    subst hr2
    unfold execOp
    simp only [ho, hx, hy]
    simp [eqGuard, binOp, Op.stringOp, Result.andThen]
    try rw [Bool.eq_iff_iff]; simp)
end

end Go.Proofs.YtcfmobgnlejpeaaDoor

/- The walk of the document's own Expand. Each theorem names its own conditions. -/
namespace Go.Proofs.YtcfmobgnlejpeaaDoor
open Go.RowKit
set_option linter.unusedVariables false
set_option linter.unusedSimpArgs false

theorem usome : (Tryd.prog.underlying 3).isSome = true := by kernel_rfl
theorem hkT_le (k info : List UInt8) (j : Nat) : (hkT k info j).length ≤ 32 := by
  cases j with
  | zero => simp [hkT]
  | succ j => rw [hkT_length]; omega

set_option maxRecDepth 100000 in
set_option maxHeartbeats 16000000 in
theorem rExpand_any (iv : Value) (kb info : List UInt8) (n : Nat) (w : World) (hk : kb.length = 32) (hi : Row1 w iv (info.map bval)) (hil : info.length ≤ 1099511627000) (hn : n ≤ 8160) (hG : GlobK w) :
    Calls Tryd.prog 14 #[.agg (kb.map bval).toArray, iv, .int .i64 (n : Int)] w fun e w' => ∃ x, e = .returned x ∧ w'.ownsRow w.heap.size 5 1 x n ((hExpand kb info n).map bval) ∧ Below w.heap.size w w' := by
  obtain ⟨i0, hi0, hz0, hz1, hz2⟩ := info_parts Tryd.info5
  have HI0 := Lib.hid hi0
  have HZ0 := Lib.hid hz0
  have HZ1 := Lib.hid hz1
  have HZ2 := Lib.hid hz2
  have HIN := Lib.hid hi
  have HINL := Lib.hid hil
  have HKL := Lib.hid hk
  have HG := Lib.hid hG
  have HN := Lib.hid hn
  have n0 : (0 : Int) ≤ (n : Int) := Int.natCast_nonneg _
  have HKB0 := Lib.hid (Blk.made w (kb.map bval) 25)
  have HE0 := Lib.hid (Ext.alloc w (.cells (kb.map bval).toArray 25))
  have HNIL : Hid ((w.alloc (.cells (kb.map bval).toArray 25)).ownsRow (w.heap.size + 1) 5 1 (.slice none 0 0) 0 []) := Lib.hid (World.ownsRow_nil _ _ _ _)
  have HSU := Lib.hid usome
  clear hi hil hk hG hn hi0 hz0 hz1 hz2
  go_enter Tryd.func14, Tryd.ntmps14
  go_wp2_with fail
  obtain ⟨K, hK⟩ : ∃ K, K = w.heap.size := ⟨_, rfl⟩
  have HKW := Lib.hid hK
  rw [← hK] at HKB0 HNIL ⊢
  clear hK
  go_loopw [7, 8, 9] (fun x tv iv' wr => ∃ (j : Nat), iv' = .int .i64 (1 + (j : Int)) ∧ j ≤ 255 ∧ wr.ownsRow (K + 1) 5 1 x (32 * j) ((hkAll kb info j).map bval) ∧ Row1 wr tv ((hkT kb info j).map bval) ∧ Blk wr K (kb.map bval) 25 ∧ Ext w wr) (fun _ _ iv' _ => 300 - (intOf iv').toNat)
  case atStart => exact ⟨0, rfl, by omega, by simpa [hkAll] using HNIL.out, by simpa [hkT] using Row1.nil _, HKB0.out, HE0.out⟩
  case round =>
    clear HNIL HKB0 HE0
    obtain ⟨j, rfl, hj, ho, ht, hkb, hE⟩ := hrel
    have j0 : (0 : Int) ≤ (j : Int) := Int.natCast_nonneg _
    have HO := Lib.hid ho
    have HT := Lib.hid ht
    have HKB := Lib.hid hkb
    have HE := Lib.hid hE
    have HTL := Lib.hid (hkT_le kb info j)
    have HJ := Lib.hid hj
    obtain ⟨ax, cx, hxv, x1, x2, x3, x4⟩ := id (Row1.of_own ho)
    have hll : ((hkAll kb info j).map bval).length = 32 * j := by rw [List.length_map, hkAll_length]
    rw [hll] at hxv
    subst hxv
    clear ho ht hkb hE x1 x2 x3 x4 hll
    by_cases hlt : 32 * j < n
    · have hlt' : 32 * (j : Int) < (n : Int) := by omega
      have hlt2 : ((32 * j : Nat) : Int) < (n : Int) := by omega
      have HRN : Hid (wr.ownsRow wr.heap.size 5 1 (.slice none 0 0) 0 []) := Lib.hid (World.ownsRow_nil _ _ _ _)
      have HINR := Lib.hid (HIN.out.below HE.out)
      go_upto_region 7 with (first | (at_builtin; refine wpList_append_row rfl _ _ 22 rfl wr.heap.size 5 i0 (.int .u8 0) 1 Tryd.underlying22 HI0.out HZ0.out HZ1.out HZ2.out rfl _ _ _ rfl HRN.out rfl HT.out (bval_one _) (by have := HTL.out; rw [List.length_map]; unfold maxLen; omega) (by have := HTL.out; rw [List.length_map]; omega) (Nat.le_refl _) ?_; intro v5 w5 ho5 hg5) | (at_builtin; refine wpList_append_row rfl _ _ 22 rfl wr.heap.size 5 i0 (.int .u8 0) 1 Tryd.underlying22 HI0.out HZ0.out HZ1.out HZ2.out rfl _ _ _ rfl ho5 rfl (HINR.out.below (show Ext wr w5 from ext_own (Ext.refl _) HRN.out (Nat.le_refl _) hg5)) (bval_one _) (by have := HTL.out; have := HINL.out; simp only [List.length_map]; unfold maxLen; omega) (by have := HTL.out; have := HINL.out; simp only [List.length_map]; omega) (show Ext wr w5 from ext_own (Ext.refl _) HRN.out (Nat.le_refl _) hg5).size ?_; intro v7 w7 ho7 hg7))
      have HE7 : Hid (Ext wr w7) := Lib.hid (ext_own (ext_own (Ext.refl _) HRN.out (Nat.le_refl _) hg5) ho5 (Nat.le_refl _) hg7)
      have hob : w7.ownsRow wr.heap.size 5 1 v7 ((hkT kb info j ++ info).length) ((hkT kb info j ++ info).map bval) := by
        have h := ho7
        rw [List.nil_append, ← List.map_append] at h
        simpa only [List.length_map, List.length_append, Nat.zero_add] using h
      have HOB := Lib.hid hob
      have HAND : Hid (bits .and .i64 (1 + (j : Int)) 255 = (((j + 1) % 256 : Nat) : Int)) := Lib.hid (by rw [and_i64_255 _ (by omega) (by omega)]; omega)
      have HCV : Hid (IntKind.u8.wrap (((j + 1) % 256 : Nat) : Int) = ((UInt8.ofNat ((j + 1) % 256)).toNat : Int)) := Lib.hid (by rw [UInt8.toNat_ofNat', IntKind.wrap_u8]; omega)
      clear ho5 hg5 ho7 hg7 hob HRN HINR
      go_cut [11] from 12 to 34 (fun v11 wc => ∃ g, v11 = .pointer (some ⟨g, 0, none⟩) ∧ wr.heap.size ≤ g ∧ Blk wc g ((hmac kb (hkT kb info j ++ info ++ [UInt8.ofNat ((j + 1) % 256)])).map bval) 25 ∧ Ext wr wc)
      case first =>
        have ob := HOB.out
        have B0 : Ext wr w7.drew := (HE7.out).trans (Ext.drew _)
        refine wp_region_held_drew (S := fun w' => Ext wr w') (by kernel_rfl) B0 (fun hHeld => ?_)
        have ob := own_below ob (Ext.drew _)
        refine wpAnyH_take (i := 0) (v := .slice (some ⟨K, 0, none⟩) 32 32) rfl (by kernel_rfl) (by kernel_rfl) (by kernel_rfl) (fun _ _ _ h => h) (yi_slice _ _ _ _ (.pointer (some ⟨K, 0, none⟩)) (.slice (some ⟨K, 0, none⟩) 32 32) none none (by rfl) rfl rfl rfl rfl (fun w => cut_whole Tryd.underlying25 Tryd.sizeOf5 (by omega) _ w)) hHeld ?_
        simp only [Act.put, List.getElem_toArray, List.getElem_cons_zero, List.getElem_cons_succ, List.setIfInBounds_toArray, List.set_cons_zero, List.set_cons_succ]
        refine wpAnyH_take (i := 1) (v := v7) rfl (by kernel_rfl) (by kernel_rfl) (by kernel_rfl) (fun _ _ _ h => h) (yi_move _ (v7) (by rfl) rfl rfl) hHeld ?_
        simp only [Act.put, List.getElem_toArray, List.getElem_cons_zero, List.getElem_cons_succ, List.setIfInBounds_toArray, List.set_cons_zero, List.set_cons_succ]
        refine wpAnyH_take (i := 2) (v := .int .i64 (1 + (j : Int))) rfl (by kernel_rfl) (by kernel_rfl) (by kernel_rfl) (fun _ _ _ h => h) (yi_move _ (.int .i64 (1 + (j : Int))) (by rfl) rfl rfl) hHeld ?_
        simp only [Act.put, List.getElem_toArray, List.getElem_cons_zero, List.getElem_cons_succ, List.setIfInBounds_toArray, List.set_cons_zero, List.set_cons_succ]
        refine wpAnyH_take (i := 3) (v := .int .i64 (((j + 1) % 256 : Nat) : Int)) rfl (by kernel_rfl) (by kernel_rfl) (by kernel_rfl) (fun _ _ _ h => h) (yi_and .i64 _ _ _ _ _ _ _ HAND.out (by rfl) rfl rfl rfl) hHeld ?_
        simp only [Act.put, List.getElem_toArray, List.getElem_cons_zero, List.getElem_cons_succ, List.setIfInBounds_toArray, List.set_cons_zero, List.set_cons_succ]
        refine wpAnyH_take (i := 4) (v := .int .u8 ((UInt8.ofNat ((j + 1) % 256)).toNat : Int)) rfl (by kernel_rfl) (by kernel_rfl) (by kernel_rfl) (fun _ _ _ h => h) (yi_iconv _ _ _ .i64 .u8 _ _ HSU.out Tryd.underlying5 HCV.out (by rfl) rfl rfl) hHeld ?_
        simp only [Act.put, List.getElem_toArray, List.getElem_cons_zero, List.getElem_cons_succ, List.setIfInBounds_toArray, List.set_cons_zero, List.set_cons_succ]
        refine wpAnyH_ready (rs := [5, 8]) (by kernel_rfl) (by simp) (AllReadyH.cons rfl (fun K hK => ?_) (AllReadyH.cons rfl (fun K hK => ?_) AllReadyH.nil))
        · refine step_wp (by rfl) ?_
          refine wp_buildSlice_d (some 27) _ _ _ _ rfl rfl #[.int .u8 ((UInt8.ofNat ((j + 1) % 256)).toNat : Int)] i0 (.int .u8 0) Tryd.underlying22 HI0.out HZ0.out (by rw [HZ1.out]; decide) (by rw [HZ1.out]; decide) (by rw [HZ1.out]; kernel_rfl) ?_
          obtain ⟨m1, hm1⟩ : ∃ wNew, wNew = World.alloc w7.drew (.cells #[.int .u8 ((UInt8.ofNat ((j + 1) % 256)).toNat : Int)] 5) := ⟨_, rfl⟩
          rw [← hm1]
          have b1 : Ext w7.drew m1 := by rw [hm1]; exact Ext.alloc _ _
          obtain ⟨g1, hg1⟩ : ∃ gNew, gNew = (w7.drew).heap.size := ⟨_, rfl⟩
          rw [← hg1]
          have ob := own_below ob b1
          have r1 : Row1 m1 (.slice (some ⟨g1, 0, none⟩) 1 1) (([UInt8.ofNat ((j + 1) % 256)] : List UInt8).map bval) := by rw [hm1, hg1]; exact Row1.made _ _ _ _ _ _ rfl rfl rfl (by unfold maxLen; omega)
          have o1 : World.ownsRow m1 (wr).heap.size 5 1 (.slice (some ⟨g1, 0, none⟩) 1 1) 1 (([UInt8.ofNat ((j + 1) % 256)] : List UInt8).map bval) := by rw [hm1, hg1]; exact own_made _ _ _ _ _ _ rfl rfl (by unfold maxLen; omega) B0.size
          clear hm1 hg1
          have N1 : Ext wr m1 := B0.trans b1
          refine hK.out _ _ N1 (fun hHeld => ?_)
          clear hK K
          try simp only [Act.put, List.getElem_toArray, List.getElem_cons_zero, List.getElem_cons_succ, List.setIfInBounds_toArray, List.set_cons_zero, List.set_cons_succ]
          refine wpAnyH_ready (rs := [6, 8]) (by kernel_rfl) (by simp) (AllReadyH.cons rfl (fun K hK => ?_) (AllReadyH.cons rfl (fun K hK => ?_) AllReadyH.nil))
          · refine step_wp (by rfl) ?_
            refine wp_append_row _ _ 22 rfl (wr).heap.size 5 i0 (.int .u8 0) 1 Tryd.underlying22 HI0.out HZ0.out HZ1.out HZ2.out rfl (v7) ((hkT kb info j ++ info).length) _ rfl ob rfl r1 (bval_one _) (by have := HINL.out; have := HTL.out; simp only [List.length_append, List.length_map, List.length_cons, List.length_nil]; unfold maxLen; omega) (by have := HINL.out; have := HTL.out; simp only [List.length_append, List.length_map, List.length_cons, List.length_nil]; omega) N1.size ?_
            intro v2 m2 ho2 hg2
            have N2 : Ext wr m2 := ext_own N1 ob (Nat.le_refl _) hg2
            have r2 : Row1 m2 v2 ((((hkT kb info j ++ info) ++ [UInt8.ofNat ((j + 1) % 256)])).map bval) := by have h := Row1.of_own ho2; simpa using h
            refine hK.out _ _ N2 (fun hHeld => ?_)
            clear hK K
            try simp only [Act.put, List.getElem_toArray, List.getElem_cons_zero, List.getElem_cons_succ, List.setIfInBounds_toArray, List.set_cons_zero, List.set_cons_succ]
            refine wpAnyH_ready (rs := [7, 8]) (by kernel_rfl) (by simp) (AllReadyH.cons rfl (fun K hK => ?_) (AllReadyH.cons rfl (fun K hK => ?_) AllReadyH.nil))
            · go_simp
              refine (rMac_any _ _ kb ((hkT kb info j ++ info) ++ [UInt8.ofNat ((j + 1) % 256)]) _ ((blk_row (n := 32) HKB.out (by rw [List.length_map]; exact HKL.out) (by unfold maxLen; omega)).below N2) r2 (by rw [HKL.out]; omega) (by have := HINL.out; have := HTL.out; simp only [List.length_append, List.length_cons, List.length_nil]; omega) (HG.out.ext (HE.out.trans N2))).mono ?_
              rintro e m3 ⟨rfl, b3⟩
              have r2 := r2.below b3
              have N3 : Ext wr m3 := N2.trans b3
              refine hK.out _ _ N3 (fun hHeld => ?_)
              clear hK K
              try simp only [Act.put, List.getElem_toArray, List.getElem_cons_zero, List.getElem_cons_succ, List.setIfInBounds_toArray, List.set_cons_zero, List.set_cons_succ]
              refine wpAnyH_ready (rs := [8]) (by kernel_rfl) (by simp) (AllReadyH.cons rfl (fun K hK => ?_) AllReadyH.nil)
              refine step_wp (by rfl) ?_
              refine wp_alloc_d (some 11) _ zero32 rfl rfl Tryd.zeroValue25 ?_
              obtain ⟨m4, hm4⟩ : ∃ wNew, wNew = World.alloc m3 (.cells zero32.toArray 25) := ⟨_, rfl⟩
              rw [← hm4]
              have b4 : Ext m3 m4 := by rw [hm4]; exact Ext.alloc _ _
              obtain ⟨g4, hg4⟩ : ∃ gNew, gNew = (m3).heap.size := ⟨_, rfl⟩
              rw [← hg4]
              have z4 : Blk m4 g4 zero32 25 := by rw [hm4, hg4]; exact Blk.made _ _ _
              have l4 : (wr).heap.size ≤ g4 := by rw [hg4]; exact N3.size
              clear hm4 hg4
              have r2 := r2.below b4
              have N4 : Ext wr m4 := N3.trans b4
              refine hK.out _ _ N4 (fun hHeld => ?_)
              clear hK K
              try simp only [Act.put, List.getElem_toArray, List.getElem_cons_zero, List.getElem_cons_succ, List.setIfInBounds_toArray, List.set_cons_zero, List.set_cons_succ]
              refine wpAnyH_ready (rs := [9]) (by kernel_rfl) (by simp) (AllReadyH.cons rfl (fun K hK => ?_) AllReadyH.nil)
              refine step_wp (by rfl) ?_
              refine wp_store_blk _ _ _ rfl g4 ((hmac kb ((hkT kb info j ++ info) ++ [UInt8.ofNat ((j + 1) % 256)])).map bval) rfl rfl _ _ z4 (by rw [List.length_map, hmac_length _ _]; rfl) (num_size (hmac_length _ _)) (bval_one _) ?_
              intro m5 hb5 hg5
              have N5 : Ext wr m5 := ext_grown N4 hg5 l4
              refine hK.out _ _ N5 (fun hHeld => ?_)
              clear hK K
              try simp only [Act.put, List.getElem_toArray, List.getElem_cons_zero, List.getElem_cons_succ, List.setIfInBounds_toArray, List.set_cons_zero, List.set_cons_succ]
              refine wpAnyH_done (by kernel_rfl) ?_ _
              go_wp2_with fail
              go_meet
              exact ⟨_, rfl, l4, hb5, N5⟩
            · refine step_wp (by rfl) ?_
              refine wp_alloc_d (some 11) _ zero32 rfl rfl Tryd.zeroValue25 ?_
              obtain ⟨m3, hm3⟩ : ∃ wNew, wNew = World.alloc m2 (.cells zero32.toArray 25) := ⟨_, rfl⟩
              rw [← hm3]
              have b3 : Ext m2 m3 := by rw [hm3]; exact Ext.alloc _ _
              obtain ⟨g3, hg3⟩ : ∃ gNew, gNew = (m2).heap.size := ⟨_, rfl⟩
              rw [← hg3]
              have z3 : Blk m3 g3 zero32 25 := by rw [hm3, hg3]; exact Blk.made _ _ _
              have l3 : (wr).heap.size ≤ g3 := by rw [hg3]; exact N2.size
              clear hm3 hg3
              have r2 := r2.below b3
              have N3 : Ext wr m3 := N2.trans b3
              refine hK.out _ _ N3 (fun hHeld => ?_)
              clear hK K
              try simp only [Act.put, List.getElem_toArray, List.getElem_cons_zero, List.getElem_cons_succ, List.setIfInBounds_toArray, List.set_cons_zero, List.set_cons_succ]
              refine wpAnyH_ready (rs := [7]) (by kernel_rfl) (by simp) (AllReadyH.cons rfl (fun K hK => ?_) AllReadyH.nil)
              go_simp
              refine (rMac_any _ _ kb ((hkT kb info j ++ info) ++ [UInt8.ofNat ((j + 1) % 256)]) _ ((blk_row (n := 32) HKB.out (by rw [List.length_map]; exact HKL.out) (by unfold maxLen; omega)).below N3) r2 (by rw [HKL.out]; omega) (by have := HINL.out; have := HTL.out; simp only [List.length_append, List.length_cons, List.length_nil]; omega) (HG.out.ext (HE.out.trans N3))).mono ?_
              rintro e m4 ⟨rfl, b4⟩
              have r2 := r2.below b4
              have z3 := z3.below b4
              have N4 : Ext wr m4 := N3.trans b4
              refine hK.out _ _ N4 (fun hHeld => ?_)
              clear hK K
              try simp only [Act.put, List.getElem_toArray, List.getElem_cons_zero, List.getElem_cons_succ, List.setIfInBounds_toArray, List.set_cons_zero, List.set_cons_succ]
              refine wpAnyH_ready (rs := [9]) (by kernel_rfl) (by simp) (AllReadyH.cons rfl (fun K hK => ?_) AllReadyH.nil)
              refine step_wp (by rfl) ?_
              refine wp_store_blk _ _ _ rfl g3 ((hmac kb ((hkT kb info j ++ info) ++ [UInt8.ofNat ((j + 1) % 256)])).map bval) rfl rfl _ _ z3 (by rw [List.length_map, hmac_length _ _]; rfl) (num_size (hmac_length _ _)) (bval_one _) ?_
              intro m5 hb5 hg5
              have N5 : Ext wr m5 := ext_grown N4 hg5 l3
              refine hK.out _ _ N5 (fun hHeld => ?_)
              clear hK K
              try simp only [Act.put, List.getElem_toArray, List.getElem_cons_zero, List.getElem_cons_succ, List.setIfInBounds_toArray, List.set_cons_zero, List.set_cons_succ]
              refine wpAnyH_done (by kernel_rfl) ?_ _
              go_wp2_with fail
              go_meet
              exact ⟨_, rfl, l3, hb5, N5⟩
          · refine step_wp (by rfl) ?_
            refine wp_alloc_d (some 11) _ zero32 rfl rfl Tryd.zeroValue25 ?_
            obtain ⟨m2, hm2⟩ : ∃ wNew, wNew = World.alloc m1 (.cells zero32.toArray 25) := ⟨_, rfl⟩
            rw [← hm2]
            have b2 : Ext m1 m2 := by rw [hm2]; exact Ext.alloc _ _
            obtain ⟨g2, hg2⟩ : ∃ gNew, gNew = (m1).heap.size := ⟨_, rfl⟩
            rw [← hg2]
            have z2 : Blk m2 g2 zero32 25 := by rw [hm2, hg2]; exact Blk.made _ _ _
            have l2 : (wr).heap.size ≤ g2 := by rw [hg2]; exact N1.size
            have q2ob : ∀ r, (v7 : Value).ownBlock = some r → r < g2 := fun r h => by rw [hg2]; exact (ob.lt r h).2
            have q2o1 : ∀ r, (.slice (some ⟨g1, 0, none⟩) 1 1 : Value).ownBlock = some r → r < g2 := fun r h => by rw [hg2]; exact (o1.lt r h).2
            clear hm2 hg2
            have r1 := r1.below b2
            have ob := own_below ob b2
            have o1 := own_below o1 b2
            have N2 : Ext wr m2 := N1.trans b2
            refine hK.out _ _ N2 (fun hHeld => ?_)
            clear hK K
            try simp only [Act.put, List.getElem_toArray, List.getElem_cons_zero, List.getElem_cons_succ, List.setIfInBounds_toArray, List.set_cons_zero, List.set_cons_succ]
            refine wpAnyH_ready (rs := [6]) (by kernel_rfl) (by simp) (AllReadyH.cons rfl (fun K hK => ?_) AllReadyH.nil)
            refine step_wp (by rfl) ?_
            refine wp_append_row _ _ 22 rfl (wr).heap.size 5 i0 (.int .u8 0) 1 Tryd.underlying22 HI0.out HZ0.out HZ1.out HZ2.out rfl (v7) ((hkT kb info j ++ info).length) _ rfl ob rfl r1 (bval_one _) (by have := HINL.out; have := HTL.out; simp only [List.length_append, List.length_map, List.length_cons, List.length_nil]; unfold maxLen; omega) (by have := HINL.out; have := HTL.out; simp only [List.length_append, List.length_map, List.length_cons, List.length_nil]; omega) N2.size ?_
            intro v3 m3 ho3 hg3
            have N3 : Ext wr m3 := ext_own N2 ob (Nat.le_refl _) hg3
            have z2 := z2.grown hg3 (fun e => absurd (q2ob _ e) (Nat.lt_irrefl _))
            have r3 : Row1 m3 v3 ((((hkT kb info j ++ info) ++ [UInt8.ofNat ((j + 1) % 256)])).map bval) := by have h := Row1.of_own ho3; simpa using h
            refine hK.out _ _ N3 (fun hHeld => ?_)
            clear hK K
            try simp only [Act.put, List.getElem_toArray, List.getElem_cons_zero, List.getElem_cons_succ, List.setIfInBounds_toArray, List.set_cons_zero, List.set_cons_succ]
            refine wpAnyH_ready (rs := [7]) (by kernel_rfl) (by simp) (AllReadyH.cons rfl (fun K hK => ?_) AllReadyH.nil)
            go_simp
            refine (rMac_any _ _ kb ((hkT kb info j ++ info) ++ [UInt8.ofNat ((j + 1) % 256)]) _ ((blk_row (n := 32) HKB.out (by rw [List.length_map]; exact HKL.out) (by unfold maxLen; omega)).below N3) r3 (by rw [HKL.out]; omega) (by have := HINL.out; have := HTL.out; simp only [List.length_append, List.length_cons, List.length_nil]; omega) (HG.out.ext (HE.out.trans N3))).mono ?_
            rintro e m4 ⟨rfl, b4⟩
            have r3 := r3.below b4
            have z2 := z2.below b4
            have N4 : Ext wr m4 := N3.trans b4
            refine hK.out _ _ N4 (fun hHeld => ?_)
            clear hK K
            try simp only [Act.put, List.getElem_toArray, List.getElem_cons_zero, List.getElem_cons_succ, List.setIfInBounds_toArray, List.set_cons_zero, List.set_cons_succ]
            refine wpAnyH_ready (rs := [9]) (by kernel_rfl) (by simp) (AllReadyH.cons rfl (fun K hK => ?_) AllReadyH.nil)
            refine step_wp (by rfl) ?_
            refine wp_store_blk _ _ _ rfl g2 ((hmac kb ((hkT kb info j ++ info) ++ [UInt8.ofNat ((j + 1) % 256)])).map bval) rfl rfl _ _ z2 (by rw [List.length_map, hmac_length _ _]; rfl) (num_size (hmac_length _ _)) (bval_one _) ?_
            intro m5 hb5 hg5
            have N5 : Ext wr m5 := ext_grown N4 hg5 l2
            refine hK.out _ _ N5 (fun hHeld => ?_)
            clear hK K
            try simp only [Act.put, List.getElem_toArray, List.getElem_cons_zero, List.getElem_cons_succ, List.setIfInBounds_toArray, List.set_cons_zero, List.set_cons_succ]
            refine wpAnyH_done (by kernel_rfl) ?_ _
            go_wp2_with fail
            go_meet
            exact ⟨_, rfl, l2, hb5, N5⟩
        · refine step_wp (by rfl) ?_
          refine wp_alloc_d (some 11) _ zero32 rfl rfl Tryd.zeroValue25 ?_
          obtain ⟨m1, hm1⟩ : ∃ wNew, wNew = World.alloc w7.drew (.cells zero32.toArray 25) := ⟨_, rfl⟩
          rw [← hm1]
          have b1 : Ext w7.drew m1 := by rw [hm1]; exact Ext.alloc _ _
          obtain ⟨g1, hg1⟩ : ∃ gNew, gNew = (w7.drew).heap.size := ⟨_, rfl⟩
          rw [← hg1]
          have z1 : Blk m1 g1 zero32 25 := by rw [hm1, hg1]; exact Blk.made _ _ _
          have l1 : (wr).heap.size ≤ g1 := by rw [hg1]; exact B0.size
          have q1ob : ∀ r, (v7 : Value).ownBlock = some r → r < g1 := fun r h => by rw [hg1]; exact (ob.lt r h).2
          clear hm1 hg1
          have ob := own_below ob b1
          have N1 : Ext wr m1 := B0.trans b1
          refine hK.out _ _ N1 (fun hHeld => ?_)
          clear hK K
          try simp only [Act.put, List.getElem_toArray, List.getElem_cons_zero, List.getElem_cons_succ, List.setIfInBounds_toArray, List.set_cons_zero, List.set_cons_succ]
          refine wpAnyH_ready (rs := [5]) (by kernel_rfl) (by simp) (AllReadyH.cons rfl (fun K hK => ?_) AllReadyH.nil)
          refine step_wp (by rfl) ?_
          refine wp_buildSlice_d (some 27) _ _ _ _ rfl rfl #[.int .u8 ((UInt8.ofNat ((j + 1) % 256)).toNat : Int)] i0 (.int .u8 0) Tryd.underlying22 HI0.out HZ0.out (by rw [HZ1.out]; decide) (by rw [HZ1.out]; decide) (by rw [HZ1.out]; kernel_rfl) ?_
          obtain ⟨m2, hm2⟩ : ∃ wNew, wNew = World.alloc m1 (.cells #[.int .u8 ((UInt8.ofNat ((j + 1) % 256)).toNat : Int)] 5) := ⟨_, rfl⟩
          rw [← hm2]
          have b2 : Ext m1 m2 := by rw [hm2]; exact Ext.alloc _ _
          obtain ⟨g2, hg2⟩ : ∃ gNew, gNew = (m1).heap.size := ⟨_, rfl⟩
          rw [← hg2]
          have ob := own_below ob b2
          have z1 := z1.below b2
          have r2 : Row1 m2 (.slice (some ⟨g2, 0, none⟩) 1 1) (([UInt8.ofNat ((j + 1) % 256)] : List UInt8).map bval) := by rw [hm2, hg2]; exact Row1.made _ _ _ _ _ _ rfl rfl rfl (by unfold maxLen; omega)
          have o2 : World.ownsRow m2 (wr).heap.size 5 1 (.slice (some ⟨g2, 0, none⟩) 1 1) 1 (([UInt8.ofNat ((j + 1) % 256)] : List UInt8).map bval) := by rw [hm2, hg2]; exact own_made _ _ _ _ _ _ rfl rfl (by unfold maxLen; omega) N1.size
          clear hm2 hg2
          have N2 : Ext wr m2 := N1.trans b2
          refine hK.out _ _ N2 (fun hHeld => ?_)
          clear hK K
          try simp only [Act.put, List.getElem_toArray, List.getElem_cons_zero, List.getElem_cons_succ, List.setIfInBounds_toArray, List.set_cons_zero, List.set_cons_succ]
          refine wpAnyH_ready (rs := [6]) (by kernel_rfl) (by simp) (AllReadyH.cons rfl (fun K hK => ?_) AllReadyH.nil)
          refine step_wp (by rfl) ?_
          refine wp_append_row _ _ 22 rfl (wr).heap.size 5 i0 (.int .u8 0) 1 Tryd.underlying22 HI0.out HZ0.out HZ1.out HZ2.out rfl (v7) ((hkT kb info j ++ info).length) _ rfl ob rfl r2 (bval_one _) (by have := HINL.out; have := HTL.out; simp only [List.length_append, List.length_map, List.length_cons, List.length_nil]; unfold maxLen; omega) (by have := HINL.out; have := HTL.out; simp only [List.length_append, List.length_map, List.length_cons, List.length_nil]; omega) N2.size ?_
          intro v3 m3 ho3 hg3
          have N3 : Ext wr m3 := ext_own N2 ob (Nat.le_refl _) hg3
          have z1 := z1.grown hg3 (fun e => absurd (q1ob _ e) (Nat.lt_irrefl _))
          have r3 : Row1 m3 v3 ((((hkT kb info j ++ info) ++ [UInt8.ofNat ((j + 1) % 256)])).map bval) := by have h := Row1.of_own ho3; simpa using h
          refine hK.out _ _ N3 (fun hHeld => ?_)
          clear hK K
          try simp only [Act.put, List.getElem_toArray, List.getElem_cons_zero, List.getElem_cons_succ, List.setIfInBounds_toArray, List.set_cons_zero, List.set_cons_succ]
          refine wpAnyH_ready (rs := [7]) (by kernel_rfl) (by simp) (AllReadyH.cons rfl (fun K hK => ?_) AllReadyH.nil)
          go_simp
          refine (rMac_any _ _ kb ((hkT kb info j ++ info) ++ [UInt8.ofNat ((j + 1) % 256)]) _ ((blk_row (n := 32) HKB.out (by rw [List.length_map]; exact HKL.out) (by unfold maxLen; omega)).below N3) r3 (by rw [HKL.out]; omega) (by have := HINL.out; have := HTL.out; simp only [List.length_append, List.length_cons, List.length_nil]; omega) (HG.out.ext (HE.out.trans N3))).mono ?_
          rintro e m4 ⟨rfl, b4⟩
          have r3 := r3.below b4
          have z1 := z1.below b4
          have N4 : Ext wr m4 := N3.trans b4
          refine hK.out _ _ N4 (fun hHeld => ?_)
          clear hK K
          try simp only [Act.put, List.getElem_toArray, List.getElem_cons_zero, List.getElem_cons_succ, List.setIfInBounds_toArray, List.set_cons_zero, List.set_cons_succ]
          refine wpAnyH_ready (rs := [9]) (by kernel_rfl) (by simp) (AllReadyH.cons rfl (fun K hK => ?_) AllReadyH.nil)
          refine step_wp (by rfl) ?_
          refine wp_store_blk _ _ _ rfl g1 ((hmac kb ((hkT kb info j ++ info) ++ [UInt8.ofNat ((j + 1) % 256)])).map bval) rfl rfl _ _ z1 (by rw [List.length_map, hmac_length _ _]; rfl) (num_size (hmac_length _ _)) (bval_one _) ?_
          intro m5 hb5 hg5
          have N5 : Ext wr m5 := ext_grown N4 hg5 l1
          refine hK.out _ _ N5 (fun hHeld => ?_)
          clear hK K
          try simp only [Act.put, List.getElem_toArray, List.getElem_cons_zero, List.getElem_cons_succ, List.setIfInBounds_toArray, List.set_cons_zero, List.set_cons_succ]
          refine wpAnyH_done (by kernel_rfl) ?_ _
          go_wp2_with fail
          go_meet
          exact ⟨_, rfl, l1, hb5, N5⟩
      case rest =>
        obtain ⟨g, rfl, hgl, hgb, hgE⟩ := hcut
        have hT1 : hmac kb (hkT kb info j ++ info ++ [UInt8.ofNat ((j + 1) % 256)]) = hkT kb info (j + 1) := rfl
        rw [hT1] at hgb
        have HT1L : Hid ((hkT kb info (j + 1)).length = 32) := Lib.hid (hkT_length kb info j)
        have HGR := Lib.hid (blk_row (n := 32) hgb (by rw [List.length_map]; exact HT1L.out) (by unfold maxLen; omega))
        have HRN : Hid (wc.ownsRow wc.heap.size 5 1 (.slice none 0 0) 0 []) := Lib.hid (World.ownsRow_nil _ _ _ _)
        have HEC := Lib.hid hgE
        have HOC := Lib.hid (own_below HO.out hgE)
        have HS0 : Hid (K + 1 ≤ wr.heap.size) := Lib.hid HKB.out.lt
        have HT1M : Hid (((hkT kb info (j + 1)).map bval).length = 32) := Lib.hid (by rw [List.length_map]; exact HT1L.out)
        have HALM : Hid (((hkAll kb info j).map bval).length = 32 * j) := Lib.hid (by rw [List.length_map, hkAll_length])
        clear hT1 hgb hgl hgE HE7 HOB HAND HCV
        go_upto_region 9 with (at_builtin; refine wpList_append_row rfl _ _ 22 rfl wc.heap.size 5 i0 (.int .u8 0) 1 Tryd.underlying22 HI0.out HZ0.out HZ1.out HZ2.out rfl _ _ _ rfl HRN.out rfl HGR.out (bval_one _) (by rw [HT1M.out]; unfold maxLen; omega) (by rw [HT1M.out]; omega) (Nat.le_refl _) ?_; intro v8 w8 ho8 hg8)
        have HE8 : Hid (Ext wc w8) := Lib.hid (ext_own (Ext.refl _) HRN.out (Nat.le_refl _) hg8)
        rw [List.nil_append, HT1M.out] at ho8
        have HO8 := Lib.hid ho8
        have HOX := Lib.hid (own_below HOC.out HE8.out)
        have HR8 := Lib.hid (Row1.of_own ho8)
        have HS8 : Hid (K + 1 ≤ w8.heap.size) := Lib.hid (Nat.le_trans HS0.out (HEC.out.trans HE8.out).size)
        have HERW := Lib.hid (HEC.out.trans HE8.out)
        have HBLK : Hid (∀ r, (Value.slice ax (32 * j) cx).ownBlock = some r → r < wc.heap.size) := Lib.hid (fun r h => (HOC.out.lt r h).2)
        have HNE : Hid (∀ r, (Value.slice ax (32 * j) cx).ownBlock = some r → v8.ownBlock ≠ some r) := Lib.hid (fun r h => Row1.own_ne HO8.out (HBLK.out r h))
        clear ho8 hg8 HRN HGR HOC HBLK
        go_wp2_with (at_builtin; refine wpList_append_row rfl _ _ 22 rfl (K + 1) 5 i0 (.int .u8 0) 1 Tryd.underlying22 HI0.out HZ0.out HZ1.out HZ2.out rfl _ _ _ rfl HOX.out rfl HR8.out (bval_one _) (by have := HJ.out; rw [HT1M.out]; unfold maxLen; omega) (by have := HJ.out; rw [HT1M.out]; omega) HS8.out ?_; intro v9 w9 ho9 hg9)
        go_roundw
        case rel =>
          have hKne : (Value.slice ax (32 * j) cx).ownBlock ≠ some K := fun e => by have := (HOX.out.lt K e).1; omega
          have hE9 : Ext w w9 := ext_own (HE.out.trans HERW.out) HOX.out (by rw [← HKW.out]; omega) hg9
          refine ⟨j + 1, by go_num, by have := HN.out; omega, ?_, HR8.out.grown hg9 (fun r h => HNE.out r h), (HKB.out.below HERW.out).grown hg9 hKne, hE9⟩
          have e1 : (hkAll kb info (j + 1)).map bval = (hkAll kb info j).map bval ++ (hkT kb info (j + 1)).map bval := by rw [hkAll, List.map_append]
          rw [e1]
          have h := ho9
          rw [HT1M.out] at h
          exact h
        case measure => simp [intOf]; omega
    · have hlt' : (n : Int) ≤ 32 * (j : Int) := by omega
      have hlt2 : ¬ ((32 * j : Nat) : Int) < (n : Int) := by omega
      obtain ⟨vx, hvx, hrx⟩ := row_upto Tryd.underlying22 Tryd.sizeOf5 (Row1.of_own HO.out) n (by rw [List.length_map, hkAll_length]; omega)
      have hlx : ((hkAll kb info j).map bval).length = 32 * j := by rw [List.length_map, hkAll_length]
      have htk : ((hkAll kb info j).map bval).take n = (hExpand kb info n).map bval := by rw [← List.map_take, hkAll_take kb info j (by omega)]
      rw [htk] at hvx
      have HVX := Lib.hid hvx
      obtain ⟨ay, ny, cy, rfl⟩ := row_form2 hvx
      have HRN : Hid (wr.ownsRow wr.heap.size 5 1 (.slice none 0 0) 0 []) := Lib.hid (World.ownsRow_nil _ _ _ _)
      have HXL : Hid (((hExpand kb info n).map bval).length = n) := Lib.hid (by rw [List.length_map, hExpand_length])
      clear hvx htk hlx HO HT HKB
      go_wp2_with (at_builtin; refine wpList_append_row rfl _ _ 22 rfl wr.heap.size 5 i0 (.int .u8 0) 1 Tryd.underlying22 HI0.out HZ0.out HZ1.out HZ2.out rfl _ _ _ rfl HRN.out rfl HVX.out (bval_one _) (by have := HN.out; rw [HXL.out]; unfold maxLen; omega) (by have := HN.out; rw [HXL.out]; omega) (Nat.le_refl _) ?_; intro v9 w9 ho9 hg9)
      go_ret
      refine ⟨_, rfl, ?_, ext_own HE.out (own_mono HRN.out HE.out.size) (Nat.le_refl _) hg9⟩
      rw [List.nil_append, HXL.out, Nat.zero_add] at ho9
      exact own_mono ho9 HE.out.size

end Go.Proofs.YtcfmobgnlejpeaaDoor

/- []byte(s): a text's bytes in a new row. Nothing here speaks of a program. Each theorem names its own conditions. -/
namespace Go.Proofs.YtcfmobgnlejpeaaDoor
open Go.RowKit
set_option linter.unusedVariables false
set_option linter.unusedSimpArgs false

section
variable {P : Program}
theorem run_bytes_row (w : World) (src dst e : TypeId) (l : List UInt8) {u : TypeDesc} (hs : P.underlying src = some u) (hd : P.underlying dst = some (.slice e)) (he : P.underlying e = some (.int .u8)) (hl : l.length ≤ maxLen) :
    ∃ a c w', (convert src dst (.string ⟨l.toArray⟩)).run P w = .ok (.slice a l.length c) w' ∧ Row1 w' (.slice a l.length c) (l.map bval) ∧ Ext w w' := by
  have hsz : (⟨l.toArray⟩ : ByteArray).size = l.length := by simp [ByteArray.size]
  refine ⟨some ⟨w.heap.size, 0, none⟩, grownCap w l.length 0 e, Lib.bytesWorld w e ⟨l.toArray⟩, ?_, ?_, ?_⟩
  · rw [Lib.run_convert_string_bytes w src dst e ⟨l.toArray⟩ hs hd he, hsz]
  · have hll : (l.map bval).length = l.length := List.length_map _
    refine ⟨_, _, by rw [hll], ?_, grownCap_le_maxLen _ _ _ _ hl, (fun e => by cases e), fun _ => ⟨w.heap.size, 0, rfl, ?_, fun i hi => ?_⟩⟩
    · rw [hll]
      exact grownCap_ge _ _ _ _
    · rw [Lib.bytesWorld_size]
      omega
    · rw [hll] at hi
      rw [Nat.zero_add, Lib.bytesWorld_cell w e ⟨l.toArray⟩ i (by rw [hsz]; exact hi), (by simp [bval, List.getD, hi] : (l.map bval)[i]? = some (.int .u8 ((l.getD i 0).toNat : Int)))]
  · have h : ∀ j, j < w.heap.size → (Lib.bytesWorld w e ⟨l.toArray⟩).heap[j]? = w.heap[j]? := fun j hj => Lib.bytesWorld_at_old w e _ j hj
    exact ⟨rfl, rfl, rfl, by rw [Lib.bytesWorld_size]; omega, fun k hk => h k hk⟩
end

end Go.Proofs.YtcfmobgnlejpeaaDoor

/- The walk of the document's own Key. Each theorem names its own conditions. -/
namespace Go.Proofs.YtcfmobgnlejpeaaDoor
open Go.RowKit
set_option linter.unusedVariables false
set_option linter.unusedSimpArgs false

set_option maxRecDepth 100000 in
set_option maxHeartbeats 8000000 in
theorem rKey_any (kb nm : List UInt8) (w : World) (hk : kb.length = 32) (hnl : nm.length ≤ 1099511627000) (hG : GlobK w) :
    Calls Tryd.prog 16 #[.agg (kb.map bval).toArray, .string ⟨nm.toArray⟩] w fun e w' => e = .returned (.agg ((hExpand kb nm 32).map bval).toArray) ∧ Below w.heap.size w w' := by
  have HKL := Lib.hid hk
  have HNL := Lib.hid hnl
  have HG := Lib.hid hG
  have HIK : Hid ((Tryd.prog.info? 25).map (·.size) = some (kb.map bval).length) := Lib.hid (num_size hk)
  clear hk hnl hG
  go_enter Tryd.func16, Tryd.ntmps16
  go_upto_region 2 with (fail)
  change Code.wp _ _ _ _ (((w.alloc (.cells (kb.map bval).toArray 25)).alloc (.cells ((zB 32).map bval).toArray 25)).alloc (.cells ((zB 32).map bval).toArray 25))
  have HBX := Lib.hid (boxes2 w (kb.map bval) ((zB 32).map bval) 25 25)
  obtain ⟨b1, b2, b4⟩ := HBX.out
  have HSB : Hid (((w.alloc (.cells (kb.map bval).toArray 25)).alloc (.cells ((zB 32).map bval).toArray 25)).heap.size = w.heap.size + 1 + 1) := Lib.hid (by simp)
  generalize (w.alloc (.cells (kb.map bval).toArray 25)).alloc (.cells ((zB 32).map bval).toArray 25) = wb at *
  have HE2 : Hid (Ext wb (wb.alloc (.cells ((zB 32).map bval).toArray 25))) := Lib.hid (Ext.alloc _ _)
  have HB5 := Lib.hid (Blk.made wb ((zB 32).map bval) 25)
  generalize wb.alloc (.cells ((zB 32).map bval).toArray 25) = w2 at *
  obtain ⟨K2, hK2⟩ : ∃ K2, K2 = w.heap.size := ⟨_, rfl⟩
  obtain ⟨A5, hA5⟩ : ∃ A5, A5 = w.heap.size + 1 + 1 := ⟨_, rfl⟩
  have hb5 := HB5.out
  rw [HSB.out, ← hA5] at hb5
  have HKW := Lib.hid hK2
  have HZ5 := Lib.hid hb5
  have HA5 : Hid (wb.heap.size ≤ A5) := Lib.hid (by rw [HSB.out, hA5]; omega)
  have HEB : Hid (Ext w wb) := Lib.hid b4
  rw [← hK2] at b1 b2
  rw [← hA5, ← hK2]
  have HKB := Lib.hid b1
  have HZ4 := Lib.hid b2
  clear b1 b2 b4 hb5 hA5 hK2 HSB HB5 HBX
  have z5 := HZ5.out
  have B0 : Ext wb w2.drew := (HE2.out).trans (Ext.drew _)
  refine wp_region_held_drew (S := fun w' => Ext wb w') (by kernel_rfl) B0 (fun hHeld => ?_)
  have z5 := z5.below (Ext.drew _)
  refine wpAnyH_take (i := 0) (v := .slice (some ⟨A5, 0, none⟩) 32 32) rfl (by kernel_rfl) (by kernel_rfl) (by kernel_rfl) (fun _ _ _ h => h) (yi_slice _ _ _ _ (.pointer (some ⟨A5, 0, none⟩)) (.slice (some ⟨A5, 0, none⟩) 32 32) none none (by rfl) rfl rfl rfl rfl (fun w => cut_whole Tryd.underlying25 Tryd.sizeOf5 (by omega) _ w)) hHeld ?_
  simp only [Act.put, List.getElem_toArray, List.getElem_cons_zero, List.getElem_cons_succ, List.setIfInBounds_toArray, List.set_cons_zero, List.set_cons_succ]
  refine wpAnyH_take (i := 1) (v := .agg ((kb).map bval).toArray) rfl (by kernel_rfl) (by kernel_rfl) (by kernel_rfl) (fun _ _ _ h => h) (yieldsIf_load_mid (by rfl) _ _ rfl K2 0 rfl _ _ (fun w h => bl_range HKB.out h) Tryd.underlying25 rfl HIK.out) hHeld ?_
  simp only [Act.put, List.getElem_toArray, List.getElem_cons_zero, List.getElem_cons_succ, List.setIfInBounds_toArray, List.set_cons_zero, List.set_cons_succ]
  refine wpAnyH_take (i := 2) (v := .string ⟨(nm).toArray⟩) rfl (by kernel_rfl) (by kernel_rfl) (by kernel_rfl) (fun _ _ _ h => h) (yi_move _ (.string ⟨(nm).toArray⟩) (by rfl) rfl rfl) hHeld ?_
  simp only [Act.put, List.getElem_toArray, List.getElem_cons_zero, List.getElem_cons_succ, List.setIfInBounds_toArray, List.set_cons_zero, List.set_cons_succ]
  refine wpAnyH_ready (rs := [3]) (by kernel_rfl) (by simp) (AllReadyH.cons rfl (fun K hK => ?_) AllReadyH.nil)
  obtain ⟨a1, c1, m1, hcv1, r1, b1⟩ := run_bytes_row (P := Tryd.prog) (w2.drew) 9 22 5 (nm) Tryd.underlying9 Tryd.underlying22 Tryd.underlying5 (by have := HNL.out; unfold maxLen; omega)
  refine step_wp (by rfl) ?_
  refine wp_conv_d (some 9) _ _ _ _ _ _ rfl rfl rfl hcv1 ?_
  have z5 := z5.below b1
  have N1 : Ext wb m1 := B0.trans b1
  refine hK.out _ _ N1 (fun hHeld => ?_)
  clear hK K
  try simp only [Act.put, List.getElem_toArray, List.getElem_cons_zero, List.getElem_cons_succ, List.setIfInBounds_toArray, List.set_cons_zero, List.set_cons_succ]
  refine wpAnyH_ready (rs := [4]) (by kernel_rfl) (by simp) (AllReadyH.cons rfl (fun K hK => ?_) AllReadyH.nil)
  go_simp
  refine (rExpand_any _ kb nm 32 _ HKL.out r1 (by have := HNL.out; omega) (by omega) (HG.out.ext (HEB.out.trans N1))).mono ?_
  rintro e m2 ⟨x2, rfl, o2, b2⟩
  have r1 := r1.below b2
  have z5 := z5.below b2
  have r2 : Row1 m2 x2 ((hExpand kb nm 32).map bval) := Row1.of_own o2
  obtain ⟨a2, c2, hx2, _⟩ := id r2
  rw [show ((hExpand kb nm 32).map bval).length = 32 from by rw [List.length_map]; simp only [hExpand_length]] at hx2
  subst hx2
  have N2 : Ext wb m2 := N1.trans b2
  refine hK.out _ _ N2 (fun hHeld => ?_)
  clear hK K
  try simp only [Act.put, List.getElem_toArray, List.getElem_cons_zero, List.getElem_cons_succ, List.setIfInBounds_toArray, List.set_cons_zero, List.set_cons_succ]
  refine wpAnyH_ready (rs := [5]) (by kernel_rfl) (by simp) (AllReadyH.cons rfl (fun K hK => ?_) AllReadyH.nil)
  refine step_wp (by rfl) ?_
  refine wp_copy_blk _ _ 22 22 rfl 5 Tryd.underlying22 one_u8 _ _ _ _ _ _ rfl rfl A5 0 _ _ z5 ((hExpand kb nm 32).map bval) (by rw [List.length_map]; simp only [hExpand_length]; rfl) (fun h => ⟨rfl, row_src r2 (hExpand kb nm 32) (by rw [List.take_length]) (Nat.le_refl _) (Ext.refl _) h⟩) (by rw [List.length_map]; simp only [hExpand_length]; decide) (bval_one _) ?_
  intro m3 hb3 hg3
  have N3 : Ext wb m3 := ext_grown N2 hg3 HA5.out
  refine hK.out _ _ N3 (fun hHeld => ?_)
  clear hK K
  try simp only [Act.put, List.getElem_toArray, List.getElem_cons_zero, List.getElem_cons_succ, List.setIfInBounds_toArray, List.set_cons_zero, List.set_cons_succ]
  refine wpAnyH_done (by kernel_rfl) ?_ _
  have hfin := hb3
  have hNN := N3
  generalize m3 = w11 at hfin hNN ⊢
  have hsp := splice_zeros 32 (hExpand kb nm 32)
  rw [show List.replicate (32 - (hExpand kb nm 32).length) (0 : UInt8) = [] from by rw [hExpand_length]; rfl, List.append_nil] at hsp
  rw [hsp] at hfin
  have HZ11 := Lib.hid (HZ4.out.below hNN)
  have HIO : Hid ((Tryd.prog.info? 25).map (·.size) = some ((hExpand kb nm 32).map bval).length) := Lib.hid (num_size (hExpand_length _ _ _))
  have HLO : Hid (((hExpand kb nm 32).map bval).length = ((zB 32).map bval).length) := Lib.hid (by rw [List.length_map, List.length_map, hExpand_length, zB_length])
  clear hsp
  go_wp2_with (first | (refine wpList_load_blk rfl _ _ rfl A5 rfl _ _ _ _ hfin Tryd.underlying25 HIO.out ?_) | (refine wpList_store_blk rfl _ _ _ rfl (K2 + 1) ((hExpand kb nm 32).map bval) rfl rfl _ _ HZ11.out HLO.out HIO.out (bval_one _) ?_; intro w12 hb12 hg12))
  refine bodyPost_ret (result_blk rfl _ (K2 + 1) _ _ _ _ rfl hb12 Tryd.underlying25 HIO.out) rfl ?_
  exact ⟨rfl, ext_grown (HEB.out.trans hNN) hg12 (by rw [HKW.out]; omega)⟩

end Go.Proofs.YtcfmobgnlejpeaaDoor

/- The walk of the document's own Extract. Each theorem names its own conditions. -/
namespace Go.Proofs.YtcfmobgnlejpeaaDoor
open Go.RowKit
set_option linter.unusedVariables false
set_option linter.unusedSimpArgs false

set_option maxRecDepth 100000 in
set_option maxHeartbeats 4000000 in
theorem rExtract_any (kv bv : Value) (k m : List UInt8) (w : World) (hk : Row1 w kv (k.map bval)) (hm : Row1 w bv (m.map bval)) (hkl : k.length ≤ 1099511627776) (hml : m.length ≤ 1099511627712) (hG : GlobK w) :
    Calls Tryd.prog 12 #[kv, bv] w fun e w' => e = .returned (.agg ((hmac k m).map bval).toArray) ∧ Below w.heap.size w w' := by
  have HK := Lib.hid hk
  have HM := Lib.hid hm
  have HG := Lib.hid hG
  have HB0 := Lib.hid (Blk.made w (ints .u8 (List.replicate 32 0)) 25)
  have HE0 := Lib.hid (Ext.alloc w (.cells (ints .u8 (List.replicate 32 0)).toArray 25))
  clear hk hm hG
  go_enter Tryd.func12, Tryd.ntmps12
  go_upto_region 1 with (fail)
  change Code.wp _ _ _ _ (w.alloc (.cells (ints .u8 (List.replicate 32 0)).toArray 25))
  generalize hw1 : w.alloc (.cells (ints .u8 (List.replicate 32 0)).toArray 25) = w1 at *
  clear hw1
  go_wp2_with fail
  refine (rMac_any kv bv k m w1 (HK.out.below HE0.out) (HM.out.below HE0.out) hkl hml (HG.out.ext HE0.out)).mono ?_
  rintro e w3 ⟨rfl, hb⟩
  have HE3 := Lib.hid (HE0.out.trans hb)
  have HB3 := Lib.hid (HB0.out.same (hb.block _ HB0.out.lt))
  obtain ⟨o2, ho2⟩ : ∃ o2, o2 = hmac k m := ⟨_, rfl⟩
  rw [← ho2]
  have HL : Hid (o2.length = 32) := Lib.hid (by rw [ho2]; exact hmac_length _ _)
  have HO2 := Lib.hid ho2
  clear ho2 hb
  have HIo : Hid ((Tryd.prog.info? 25).map (·.size) = some (o2.map bval).length) := Lib.hid (num_size HL.out)
  have HLo : Hid ((o2.map bval).length = (ints .u8 (List.replicate 32 0)).length) := Lib.hid (by rw [List.length_map, HL.out, ints_length, List.length_replicate])
  go_wp2_with (refine wpList_store_blk rfl _ _ _ rfl w.heap.size (o2.map bval) rfl rfl _ _ HB3.out HLo.out HIo.out (bval_one _) ?_; intro w10 hb10 hg10)
  refine bodyPost_ret (result_blk rfl _ w.heap.size _ _ _ _ rfl hb10 Tryd.underlying25 HIo.out) rfl ?_
  exact ⟨by rw [HO2.out], ext_grown HE3.out hg10 (Nat.le_refl _)⟩

end Go.Proofs.YtcfmobgnlejpeaaDoor

/- What chapter 8 says of derive.Expand, as functions. No program. Each theorem names its own conditions. -/
namespace Go.Proofs.YtcfmobgnlejpeaaDoor
open Go.RowKit
set_option linter.unusedVariables false

def dBad (n : Int) : Prop := n < 0 ∨ 8160 < n
instance (n : Int) : Decidable (dBad n) := inferInstanceAs (Decidable (n < 0 ∨ 8160 < n))
def dErr (n : Int) : Int := if dBad n then 1 else 0
def dOut (k info : List UInt8) (n : Int) : List UInt8 := if dBad n then [] else hExpand k info n.toNat
theorem dErr_good {n : Nat} (h : n ≤ 8160) : dErr (n : Int) = 0 := by
  exact if_neg (by unfold dBad; omega)
theorem dOut_good (k info : List UInt8) {n : Nat} (h : n ≤ 8160) : dOut k info (n : Int) = hExpand k info n := by
  have e : dOut k info (n : Int) = hExpand k info (n : Int).toNat := if_neg (by unfold dBad; omega)
  rw [e, Int.toNat_natCast]
theorem dErr_bad {n : Int} (h : dBad n) : dErr n = 1 := if_pos h
theorem dOut_bad (k info : List UInt8) {n : Int} (h : dBad n) : dOut k info n = [] := if_pos h
theorem hmac_nosalt (m : List UInt8) (n : Nat) (h : n ≤ 64) : hmac (List.replicate n 0) m = hmac [] m := by
  have := hmac_zeros [] m n (by simpa using h)
  rwa [List.nil_append] at this

end Go.Proofs.YtcfmobgnlejpeaaDoor

/- The hash by blocks: a block of its own, what stands behind whole blocks makes no difference, the last blocks, the words laid out. No program. Each theorem names its own conditions. -/
namespace Go.Proofs.YtcfmobgnlejpeaaDoor
open Go.RowKit
set_option linter.unusedVariables false
set_option linter.unusedSimpArgs false

theorem beW_cut {m : List UInt8} {s k : Nat} (h : k + 4 ≤ 64) : beW ((m.drop s).take 64) k = beW m (s + k) := by
  have g : ∀ j, j < 64 → ((m.drop s).take 64).getD j 0 = m.getD (s + j) 0 := fun j hj => by
    simp only [List.getD, List.getElem?_take, if_pos hj, List.getElem?_drop]
  unfold beW
  rw [g k (by omega), g (k + 1) (by omega), g (k + 2) (by omega), g (k + 3) (by omega)]
  rfl
theorem wTop_cut (m : List UInt8) (s : Nat) : ∀ k, k ≤ 16 → wTop ((m.drop s).take 64) 0 k = wTop m s k
  | 0, _ => rfl
  | k + 1, h => by
    rw [wTop, wTop, wTop_cut m s k (by omega), Nat.zero_add, beW_cut (by omega)]
theorem wSch_cut (m : List UInt8) (s : Nat) : ∀ n, wSch ((m.drop s).take 64) 0 n = wSch m s n
  | 0 => wTop_cut m s 16 (Nat.le_refl _)
  | n + 1 => by rw [wSch, wSch, wSch_cut m s n]
theorem hRun_mix (m : List UInt8) (n : Nat) : hRun m (n + 1) = mixF (hRun m n) ((m.drop (64 * n)).take 64) := by
  rw [hRun, mixF, wSch_cut]
theorem hRun_front (p q : List UInt8) : ∀ n, 64 * n ≤ p.length → hRun (p ++ q) n = hRun p n
  | 0, _ => rfl
  | n + 1, h => by
    rw [hRun_mix, hRun_mix, hRun_front p q n (by omega)]
    congr 1
    rw [List.drop_append_of_le_length (by omega), List.take_append_of_le_length (by rw [List.length_drop]; omega)]
/-- One more block. -/
theorem hRun_block (p x : List UInt8) (n : Nat) (hp : p.length = 64 * n) (hx : x.length = 64) (q : List UInt8) : hRun (p ++ x ++ q) (n + 1) = mixF (hRun p n) x := by
  rw [hRun_mix, List.append_assoc, hRun_front p (x ++ q) n (by omega), List.drop_append_of_le_length (by omega), ← hp, List.drop_length, List.nil_append, List.take_append_of_le_length (by omega), List.take_of_length_le (by omega)]

theorem ofNat_mod (n : Nat) : UInt8.ofNat (n % 256) = UInt8.ofNat n := by
  apply UInt8.toNat_inj.1
  rw [UInt8.toNat_ofNat', UInt8.toNat_ofNat']
  omega
/-- A word's bytes. -/
def be4 (x : W32) : List UInt8 := [UInt8.ofNat (x.toNat / 16777216), UInt8.ofNat (x.toNat / 65536), UInt8.ofNat (x.toNat / 256), UInt8.ofNat x.toNat]
theorem put4_at (a b : List UInt8) (x0 x1 x2 x3 : UInt8) (x : W32) : put4 (a ++ x0 :: x1 :: x2 :: x3 :: b) a.length x = a ++ be4 x ++ b := by
  unfold put4 be4
  rw [List.set_append_right _ _ (by omega), List.set_append_right _ _ (by omega), List.set_append_right _ _ (by omega), List.set_append_right _ _ (by omega)]
  have e1 : a.length + 1 - a.length = 1 := by omega
  have e2 : a.length + 2 - a.length = 2 := by omega
  have e3 : a.length + 3 - a.length = 3 := by omega
  rw [Nat.sub_self, e1, e2, e3]
  simp
/-- The length's two words. -/
theorem be4_len (n : Nat) (h : n ≤ 1099511627776) : be4 (BitVec.ofNat 32 (n / 536870912)) ++ be4 (BitVec.ofNat 32 (8 * n)) = beB 8 (8 * n) := by
  have e1 : (BitVec.ofNat 32 (n / 536870912)).toNat = n / 536870912 := by rw [BitVec.toNat_ofNat]; omega
  have e2 : (BitVec.ofNat 32 (8 * n)).toNat = 8 * n % 4294967296 := by rw [BitVec.toNat_ofNat]
  have g : ∀ a b : Nat, a % 256 = b % 256 → UInt8.ofNat a = UInt8.ofNat b := fun a b h => by rw [← ofNat_mod a, ← ofNat_mod b, h]
  simp only [be4, beB, e1, e2, List.cons_append, List.nil_append, Nat.reducePow, List.cons.injEq, and_true]
  refine ⟨g _ _ ?_, g _ _ ?_, g _ _ ?_, g _ _ ?_, g _ _ ?_, g _ _ ?_, g _ _ ?_, g _ _ ?_⟩ <;> omega
/-- A last block: what stands, the bit, noughts. -/
def lastB (l : List UInt8) (f : Nat) : List UInt8 := l.take f ++ 128 :: List.replicate (63 - f) 0
theorem lastB_length {l : List UInt8} {f : Nat} (hl : f ≤ l.length) (hf : f < 64) : (lastB l f).length = 64 := by
  simp [lastB]
  omega
theorem rep8 : List.replicate 8 (0 : UInt8) = [0, 0, 0, 0, 0, 0, 0, 0] := rfl
theorem put_len (a : List UInt8) (n : Nat) (ha : a.length = 56) (h : n ≤ 1099511627776) :
    put4 (put4 (a ++ List.replicate 8 0) 56 (BitVec.ofNat 32 (n / 536870912))) 60 (BitVec.ofNat 32 (8 * n)) = a ++ beB 8 (8 * n) := by
  have e1 := put4_at a [0, 0, 0, 0] 0 0 0 0 (BitVec.ofNat 32 (n / 536870912))
  rw [ha] at e1
  rw [rep8, e1]
  have e2 := put4_at (a ++ be4 (BitVec.ofNat 32 (n / 536870912))) [] 0 0 0 0 (BitVec.ofNat 32 (8 * n))
  have e3 : (a ++ be4 (BitVec.ofNat 32 (n / 536870912))).length = 60 := by simp [be4, ha]
  rw [e3] at e2
  rw [e2, List.append_nil, List.append_assoc, be4_len n h]
/-- The hash of what ends within one more block. -/
theorem close_one (p l : List UInt8) (n f : Nat) (hp : p.length = 64 * n + f) (hf : f < 56) (hl : l.length = 64) (hlf : l.take f = p.drop (64 * n)) (hb : p.length ≤ 1099511627776) :
    hRun (padded p) ((p.length + 72) / 64) = mixF (hRun p n) (put4 (put4 (lastB l f) 56 (BitVec.ofNat 32 (p.length / 536870912))) 60 (BitVec.ofNat 32 (8 * p.length))) := by
  have e1 : lastB l f = (l.take f ++ 128 :: List.replicate (55 - f) 0) ++ List.replicate 8 0 := by
    unfold lastB
    rw [show 63 - f = (55 - f) + 8 from by omega, ← List.replicate_append_replicate]
    simp
  rw [e1, put_len _ _ (by simp; omega) hb, hlf]
  have e2 : (p.length + 72) / 64 = n + 1 := by omega
  have e3 : padN p.length = 55 - f := by unfold padN; omega
  have e4 : padded p = p.take (64 * n) ++ (p.drop (64 * n) ++ 128 :: List.replicate (55 - f) 0 ++ beB 8 (8 * p.length)) ++ [] := by
    unfold padded
    rw [e3]
    simp only [List.append_assoc, List.append_nil, List.cons_append, List.nil_append]
    rw [← List.append_assoc, List.take_append_drop]
  have e5 : hRun p n = hRun (p.take (64 * n)) n := by
    have h := hRun_front (p.take (64 * n)) (p.drop (64 * n)) n (by simp; omega)
    rwa [List.take_append_drop] at h
  rw [e2, e4, e5, hRun_block _ _ n (by simp; omega) (by simp [beB_length]; omega)]
/-- The hash of what needs two. -/
theorem close_two (p l : List UInt8) (n f : Nat) (hp : p.length = 64 * n + f) (hf : 56 ≤ f) (hf2 : f < 64) (hl : l.length = 64) (hlf : l.take f = p.drop (64 * n)) (hb : p.length ≤ 1099511627776) :
    hRun (padded p) ((p.length + 72) / 64) = mixF (mixF (hRun p n) (lastB l f)) (put4 (put4 (List.replicate 64 0) 56 (BitVec.ofNat 32 (p.length / 536870912))) 60 (BitVec.ofNat 32 (8 * p.length))) := by
  have e1 : List.replicate 64 (0 : UInt8) = List.replicate 56 0 ++ List.replicate 8 0 := rfl
  rw [e1, put_len _ _ (by simp) hb]
  have e2 : (p.length + 72) / 64 = n + 1 + 1 := by omega
  have e3 : padN p.length = (63 - f) + 56 := by unfold padN; omega
  have e4 : padded p = (p.take (64 * n) ++ lastB l f) ++ (List.replicate 56 0 ++ beB 8 (8 * p.length)) ++ [] := by
    unfold padded lastB
    rw [e3, hlf, ← List.replicate_append_replicate]
    simp only [List.append_assoc, List.append_nil, List.cons_append, List.nil_append]
    exact (congrArg (· ++ 128 :: (List.replicate (63 - f) 0 ++ (List.replicate 56 0 ++ beB 8 (8 * p.length)))) (List.take_append_drop (64 * n) p)).symm.trans (List.append_assoc _ _ _)
  have e5 : hRun p n = hRun (p.take (64 * n)) n := by
    have h := hRun_front (p.take (64 * n)) (p.drop (64 * n)) n (by simp; omega)
    rwa [List.take_append_drop] at h
  have hlb := lastB_length (l := l) (f := f) (by omega) hf2
  have e6 := hRun_block (p.take (64 * n)) (lastB l f) n (by simp; omega) hlb []
  rw [List.append_nil] at e6
  rw [e2, e4, e5, hRun_block _ _ (n + 1) (by rw [List.length_append, hlb]; simp; omega) (by simp [beB_length]), e6]

/-- The first k words, laid out. -/
def outK (h : List W32) : Nat → List UInt8
  | 0 => List.replicate 32 0
  | k + 1 => put4 (outK h k) (4 * k) (h.getD k 0#32)
theorem outK_length (h : List W32) : ∀ k, (outK h k).length = 32
  | 0 => by simp [outK]
  | k + 1 => by rw [outK, put4_length, outK_length h k]
theorem outK_full : ∀ (h : List W32), h.length = 8 → outK h 8 = outB h
  | [a, b, c, d, e, f, g, i], _ => by
    simp only [outK, put4, outB, List.range, List.range.loop, List.map_cons, List.map_nil, ofNat_mod, List.replicate, List.getD_cons_zero, List.getD_cons_succ, List.set_cons_zero, List.set_cons_succ, Nat.reduceMul, Nat.reduceAdd, Nat.reduceDiv, Nat.reduceMod, Nat.reduceSub, Nat.reducePow, Nat.div_one]

end Go.Proofs.YtcfmobgnlejpeaaDoor

/- clear(s) of a slice of bytes that lies in a block known whole. Nothing here speaks of a program. Each theorem names its own conditions. -/
namespace Go.Proofs.YtcfmobgnlejpeaaDoor
open Go.RowKit
set_option linter.unusedVariables false

section
variable {P : Program} {w : World}
theorem zeroCells_one (x : Value) (n : Nat) : (Builtin.zeroCells #[x] n).toList = List.replicate n x := by
  unfold Builtin.zeroCells
  rw [Array.toList_map]
  apply List.ext_getElem
  · simp
  · intro i h1 h2
    simp [Nat.mod_one]
theorem run_clear_bytes {t e ty : TypeId} (ht : P.underlying t = some (.slice e)) (hz : ∀ w, (zeroValue e).run P w = .ok (.int .u8 0) w) (c o n cap : Nat) (cs : List Value) (tb : TypeId) (hb : Blk w c cs tb) (hn : o + n ≤ cs.length) :
    (Builtin.clear_ #[t] ty #[.slice (some ⟨c, o, none⟩) n cap]).run P w = .ok (.tuple #[]) (w.setCells c o (List.replicate n (.int .u8 0))) := by
  cases n with
  | zero => simp [Builtin.clear_, run_underlying ht, World.setCells]
  | succ n =>
    have hst := run_storeCells_cells (P := P) c o (List.replicate (n + 1) (.int .u8 0)) 0 w (fun j hj => by
      rw [hb.cell, List.getElem?_eq_getElem (by rw [List.length_replicate] at hj; omega)]
      rfl) (fun j _ => hb.free _) (fun v hv => by rw [List.eq_of_mem_replicate hv]; rfl)
    rw [Nat.add_zero] at hst
    simp [Builtin.clear_, run_underlying ht, hz, Value.cells, zeroCells_one, hst]
end

theorem laid_append : ∀ (vs a b : List Value), vs.length = b.length → laid (a ++ b) a.length vs = a ++ vs
  | [], a, [], _ => rfl
  | v :: r, a, x :: b, h => by
    rw [laid, List.set_append_right _ _ (Nat.le_refl _), Nat.sub_self, List.set_cons_zero]
    have ih := laid_append r (a ++ [v]) b (by simpa using h)
    simpa using ih

end Go.Proofs.YtcfmobgnlejpeaaDoor

/- The walks of package sha's start, closed, numOf. Each theorem names its own conditions. -/
namespace Go.Proofs.YtcfmobgnlejpeaaDoor
open Go.RowKit
set_option linter.unusedVariables false
set_option linter.unusedSimpArgs false

set_option maxHeartbeats 1000000 in
theorem start_any (w : World) : Calls Tryd.prog 23 #[] w fun e w' => e = .returned (.agg (ints .u32 (ws H256)).toArray) ∧ Below w.heap.size w w' := by
  have HZ := Lib.hid (Blk.made w (ints .u32 (List.replicate 8 0)) 49)
  have HE := Lib.hid (Ext.alloc w (.cells (ints .u32 (List.replicate 8 0)).toArray 49))
  go_enter Tryd.func23, Tryd.ntmps23
  go_wp2_with (refine wpList_store_blk rfl _ _ _ rfl w.heap.size (ints .u32 (ws H256)) rfl rfl _ _ HZ.out rfl Tryd.arr49 (ints_one _ _) ?_; intro w1 hb1 hg1)
  refine bodyPost_ret (result_blk rfl _ w.heap.size _ _ _ _ rfl hb1 Tryd.underlying49 Tryd.arr49) rfl ?_
  exact ⟨rfl, ext_grown HE.out hg1 (Nat.le_refl _)⟩

theorem build_block (w : World) : (Instr.build 54 #[]).run Tryd.prog w = .ok (.agg ((List.replicate 64 (0 : UInt8)).map bval).toArray) w := by
  simp [Instr.build, Tryd.zeroValue54]
  rfl
theorem index_words {T e : TypeId} {n : Nat} (hT : Tryd.prog.underlying T = some (.array n e)) (hs : ∀ w, (sizeOf e).run Tryd.prog w = .ok 1 w) (ha : ∀ w, (isAgg e).run Tryd.prog w = .ok false w) (h : List W32) (hl : h.length = n) (k : Nat) (hk : k < n) (w : World) :
    (Instr.index T (.agg (ints .u32 (ws h)).toArray) (.int .i64 (k : Int))).run Tryd.prog w = .ok (.int .u32 (wi (h.getD k 0#32))) w := by
  have hg : (ints .u32 (ws h))[k]? = some (.int .u32 (wi (h.getD k 0#32))) := by rw [ints_get (by rw [ws_length, hl]; exact hk), ws_getD]
  have hi : 0 ≤ (k : Int) ∧ (k : Int) < (n : Int) := by omega
  unfold Instr.index
  simp only [asIntOf, Sem.run_bind, Sem.run_pure, Result.andThen_ok, run_underlying hT, hi, hs, part, ha]
  rw [if_pos ⟨trivial, trivial⟩]
  simp only [Sem.run_bind, hs, ha, Result.andThen_ok, Int.toNat_natCast, Nat.mul_one, List.getElem?_toArray, hg, Bool.false_eq_true, if_false, Sem.run_pure]

set_option maxRecDepth 100000 in
set_option maxHeartbeats 8000000 in
theorem numOf_any (h : List W32) (hh : h.length = 8) (w : World) : Calls Tryd.prog 27 #[.agg (ints .u32 (ws h)).toArray] w fun e w' => e = .returned (.agg ((outB h).map bval).toArray) ∧ Below w.heap.size w w' := by
  have HH := Lib.hid hh
  have HB := Lib.hid (boxes3u w (ints .u32 (ws h)) (ints .u8 (List.replicate 32 0)) (ints .u8 (List.replicate 32 0)) 49 25 25)
  have HIr : Hid ((Tryd.prog.info? 49).map (·.size) = some (ints .u32 (ws h)).length) := Lib.hid (by rw [ints_length, ws_length, hh]; exact Tryd.arr49)
  clear hh
  go_enter Tryd.func27, Tryd.ntmps27
  go_upto_region 2 with (fail)
  obtain ⟨H1, H2, H3, HE⟩ := HB.out
  change Code.wp _ _ _ _ (((w.alloc (.cells (ints .u32 (ws h)).toArray 49)).alloc (.cells (ints .u8 (List.replicate 32 0)).toArray 25)).alloc (.cells (ints .u8 (List.replicate 32 0)).toArray 25))
  generalize (((w.alloc (.cells (ints .u32 (ws h)).toArray 49)).alloc (.cells (ints .u8 (List.replicate 32 0)).toArray 25)).alloc (.cells (ints .u8 (List.replicate 32 0)).toArray 25)) = w3 at *
  obtain ⟨A, hA⟩ : ∃ A, A = w.heap.size := ⟨_, rfl⟩
  rw [← hA] at H1 H2 H3 ⊢
  have hA2 : w.heap.size ≤ A := by omega
  have H1 := Lib.hid H1
  have H2 := Lib.hid H2
  have H3 := Lib.hid H3
  have HE : Hid (Ext w w3) := Lib.hid HE
  clear hA HB
  go_wp2_with (refine wpList_load_blk rfl _ _ rfl A rfl _ _ _ _ H1.out Tryd.underlying49 HIr.out ?_)
  go_loopw [7] (fun iv wr => ∃ (k : Nat), k ≤ 8 ∧ iv = .int .i64 (k : Int) ∧ Blk wr (A + 1) (ints .u8 (List.replicate 32 0)) 25 ∧ Blk wr (A + 1 + 1) ((outK h k).map bval) 25 ∧ Ext w wr) (fun iv _ => 8 - (intOf iv).toNat)
  case atStart => exact ⟨0, by omega, rfl, H2.out, H3.out, HE.out⟩
  case round =>
    clear H1 H2 H3 HE
    obtain ⟨k, hk, rfl, hb2, hb3, hbel⟩ := hrel
    have k0 : (0 : Int) ≤ (k : Int) := Int.natCast_nonneg _
    by_cases hlk : k < 8
    · have k1 : (k : Int) < 8 := by omega
      have hi := index_words Tryd.underlying49 Tryd.sizeOf47 Tryd.isAgg47 h HH.out k hlk
      have hs := cut_arr Tryd.underlying25 num_cells Tryd.sizeOf5 wr (A + 1 + 1) (4 * k) (by omega)
      have e4 : ((4 * k : Nat) : Int) = 4 * (k : Int) := by omega
      rw [e4] at hs
      have HP := Lib.hid (put_any (A + 1 + 1) (4 * k) (32 - 4 * k) (32 - 4 * k) (outK h k) (h.getD k 0#32) _ wr hb3 (by rw [outK_length]; omega) (by omega))
      have HK : Hid (outK h (k + 1) = put4 (outK h k) (4 * k) (h.getD k 0#32)) := Lib.hid rfl
      have H2 := Lib.hid hb2
      have HE := Lib.hid hbel
      clear hb2 hb3 hbel e4
      generalize h.getD k 0#32 = y at *
      go_wp2_with fail
      refine HP.out.mono ?_
      rintro e w4 ⟨rfl, hb, hg⟩
      have H2 := Lib.hid (H2.out.grown hg (by simp))
      have HE := Lib.hid (ext_grown HE.out hg (by omega))
      have H3 := Lib.hid hb
      clear hb hg HP hs hi
      go_wp2_with fail
      go_roundw
      case rel => exact ⟨k + 1, by omega, by go_num, H2.out, by rw [HK.out]; exact H3.out, HE.out⟩
      case measure => simp [intOf]; omega
    · have hk8 : k = 8 := by omega
      subst hk8
      rw [outK_full h HH.out] at hb3
      have H2 := Lib.hid hb2
      have H3 := Lib.hid hb3
      have HE := Lib.hid hbel
      clear hb2 hb3 hbel
      have HIo : Hid ((Tryd.prog.info? 25).map (·.size) = some ((outB h).map bval).length) := Lib.hid (num_size (outB_length h))
      have HLo : Hid (((outB h).map bval).length = (ints .u8 (List.replicate 32 0)).length) := Lib.hid (by rw [List.length_map, outB_length, ints_length, List.length_replicate])
      go_wp2_with (first | (refine wpList_load_blk rfl _ _ rfl (A + 1 + 1) rfl _ _ _ _ H3.out Tryd.underlying25 HIo.out ?_) | (refine wpList_store_blk rfl _ _ _ rfl (A + 1) ((outB h).map bval) rfl rfl _ _ H2.out HLo.out HIo.out (bval_one _) ?_; intro w4 hb4 hg4))
      refine bodyPost_ret (result_blk rfl _ (A + 1) _ _ _ _ rfl hb4 Tryd.underlying25 HIo.out) rfl ?_
      exact ⟨rfl, ext_grown HE.out hg4 (by omega)⟩

theorem cut_arr2 {t : TypeId} {n : Nat} {e : TypeId} (ht : Tryd.prog.underlying t = some (.array n e)) (h : ∀ w, (sizeOf e).run Tryd.prog w = .ok 1 w) (w : World) (A p : Nat) (hp : p ≤ n) :
    ∃ o, o + (n - p) ≤ n ∧ (p < n → o = p) ∧ (Instr.sliceAt t (.pointer (some ⟨A, 0, none⟩)) (some (.int .i64 (p : Int))) none none).run Tryd.prog w = .ok (.slice (some ⟨A, o, none⟩) (n - p) (n - p)) w := by
  have e1 : Tryd.prog.arrayLen t = n := by unfold Program.arrayLen; rw [ht]
  have e2 : Tryd.prog.elem t = e := by unfold Program.elem; rw [ht]
  have hr := run_sliceAt_array_l w t ⟨A, 0, none⟩ (by rw [e1, e2]; exact ht) .i64 (p : Int) (by omega) (by rw [e1]; omega)
  rw [e2, h, e1] at hr
  by_cases hpn : n = p
  · refine ⟨0, by omega, by omega, ?_⟩
    rw [hr]
    simp [slicedAt, hpn]
  · refine ⟨p, by omega, fun _ => rfl, ?_⟩
    rw [hr]
    simp [slicedAt, Addr.add, hpn]
    exact fun h => h.symm
/-- The bit and the noughts behind it, laid over a block. -/
theorem laid_last (l : List UInt8) (f o : Nat) (hl : l.length = 64) (hf : f < 64) (ho : f + 1 < 64 → o = f + 1) :
    laid ((l.map bval).set f (.int .u8 128)) o (List.replicate (63 - f) (.int .u8 0)) = (lastB l f).map bval := by
  rw [show 63 - f = 64 - (f + 1) from by omega]
  have e0 : (Value.int .u8 128) = bval 128 := rfl
  have e1 : l.set f 128 = l.take f ++ [128] ++ l.drop (f + 1) := by
    rw [List.set_eq_take_append_cons_drop, if_pos (by omega)]
    simp
  have e2 : (List.replicate (64 - (f + 1)) (Value.int .u8 0)) = (List.replicate (64 - (f + 1)) (0 : UInt8)).map bval := by rw [List.map_replicate]; rfl
  rw [e0, ← List.map_set, e1, e2]
  by_cases h : f + 1 < 64
  · rw [ho h, List.map_append]
    have h3 : f + 1 = ((l.take f ++ [128]).map bval).length := by simp; omega
    have h4 := laid_append ((List.replicate (64 - (f + 1)) (0 : UInt8)).map bval) ((l.take f ++ [128]).map bval) ((l.drop (f + 1)).map bval) (by simp; omega)
    rw [← h3] at h4
    rw [h4, ← List.map_append]
    unfold lastB
    rw [show 64 - (f + 1) = 63 - f from by omega]
    simp
  · have h3 : f = 63 := by omega
    subst h3
    unfold lastB
    simp [laid, hl]

set_option maxRecDepth 100000 in
set_option maxHeartbeats 8000000 in
/-- The hash of p, of which n blocks are told by h and f bytes lie in l. -/
theorem closed_any (p l : List UInt8) (n f : Nat) (w : World) (hp : p.length = 64 * n + f) (hf : f < 64) (hl : l.length = 64) (hlf : l.take f = p.drop (64 * n)) (hb : p.length ≤ 1099511627776) (hG : GlobR w) :
    Calls Tryd.prog 28 #[.agg (ints .u32 (ws (hRun p n))).toArray, .agg (l.map bval).toArray, .int .i64 (f : Int), .int .i64 (p.length : Int)] w fun e w' =>
      e = .returned (.agg (ints .u32 (ws (hRun (padded p) ((p.length + 72) / 64)))).toArray) ∧ Below w.heap.size w w' := by
  have HG := Lib.hid hG
  have HB := Lib.hid (boxes3u w (ints .u32 (ws (hRun p n))) (l.map bval) (ints .u32 (List.replicate 8 0)) 49 54 49)
  have HL := Lib.hid hl
  have HR := Lib.hid (hRun_length p n)
  have hb0 : (p.length : Int) ≤ 1099511627776 := by omega
  have hf0 : (f : Int) < 64 := by omega
  have HC1 : Hid (f < 56 → _) := Lib.hid (fun h56 => close_one p l n f hp h56 hl hlf hb)
  have HC2 : Hid (56 ≤ f → _) := Lib.hid (fun h56 => close_two p l n f hp h56 hf hl hlf hb)
  generalize hRun (padded p) ((p.length + 72) / 64) = R at *
  generalize hRun p n = h at *
  have HLB := Lib.hid (lastB_length (l := l) (f := f) (by omega) hf)
  clear hG hlf hp
  go_enter Tryd.func28, Tryd.ntmps28
  go_upto_region 1 with (fail)
  obtain ⟨H1, H2, H3, HE⟩ := HB.out
  change Code.wp _ _ _ _ (((w.alloc (.cells (ints .u32 (ws h)).toArray 49)).alloc (.cells (l.map bval).toArray 54)).alloc (.cells (ints .u32 (List.replicate 8 0)).toArray 49))
  generalize (((w.alloc (.cells (ints .u32 (ws h)).toArray 49)).alloc (.cells (l.map bval).toArray 54)).alloc (.cells (ints .u32 (List.replicate 8 0)).toArray 49)) = w3 at *
  obtain ⟨A, hA⟩ : ∃ A, A = w.heap.size := ⟨_, rfl⟩
  rw [← hA] at H1 H2 H3 ⊢
  have hA2 : w.heap.size ≤ A := by omega
  have c0 : w3.cell? ⟨A + 1, f, none⟩ = some (.int .u8 ((l.getD f 0).toNat : Int)) := by rw [H2.cell, bval_get (by omega)]
  have f0 := H2.free f
  have H1 := Lib.hid H1
  have H2 := Lib.hid H2
  have H3 := Lib.hid H3
  have HE : Hid (Ext w w3) := Lib.hid HE
  clear hA HB hl
  generalize ((l.getD f 0).toNat : Int) = z0 at *
  obtain ⟨o, ho1, ho2, hs⟩ := cut_arr2 Tryd.underlying54 Tryd.sizeOf5 (w3.setCell ⟨A + 1, f, none⟩ (.int .u8 128)) (A + 1) (f + 1) (by omega)
  have ef : ((f + 1 : Nat) : Int) = (f : Int) + 1 := by omega
  rw [ef] at hs
  have HB3 := Lib.hid (H2.out.set f (.int .u8 128))
  have hcl := run_clear_bytes (ty := 0) Tryd.underlying22 Tryd.zeroValue5 (A + 1) o (63 - f) (63 - f) _ _ HB3.out (by have := HL.out; simp; omega)
  have HLL := Lib.hid (laid_last l f o HL.out hf ho2)
  clear ho1 ho2 ef
  go_upto_region 3 with (fail)
  have H2 := Blk.setCells (List.replicate (63 - f) (.int .u8 0)) _ o _ HB3.out
  rw [HLL.out] at H2
  have hg : w3.grownBy ((w3.setCell ⟨A + 1, f, none⟩ (.int .u8 128)).setCells (A + 1) o (List.replicate (63 - f) (.int .u8 0))) (some (A + 1)) := grownBy_setCells _ _ _ _ (grownBy_set (grownBy_refl w3 _) _ _)
  have H1 := Lib.hid (H1.out.grown hg (by simp))
  have H3 := Lib.hid (H3.out.grown hg (by simp))
  have HE := Lib.hid (ext_grown HE.out hg (by omega))
  have H2 := Lib.hid H2
  generalize (w3.setCell ⟨A + 1, f, none⟩ (.int .u8 128)).setCells (A + 1) o (List.replicate (63 - f) (.int .u8 0)) = w4 at *
  clear hg HB3 HLL hcl hs c0 f0
  generalize hLB : lastB l f = lb at *
  have HI1 : Hid ((Tryd.prog.info? 49).map (·.size) = some (ints .u32 (ws h)).length) := Lib.hid (by rw [ints_length, ws_length, HR.out]; exact Tryd.arr49)
  have HI2 : Hid ((Tryd.prog.info? 54).map (·.size) = some (lb.map bval).length) := Lib.hid (by rw [List.length_map, HLB.out]; exact Tryd.arr54)
  have q1 : (wi (BitVec.ofNat 32 (p.length / 536870912))) = (p.length : Int) / 536870912 := by
    unfold wi
    rw [BitVec.toNat_ofNat]
    omega
  have q2 : (wi (BitVec.ofNat 32 (8 * p.length))) = (p.length : Int) * 8 % 4294967296 := by
    unfold wi
    rw [BitVec.toNat_ofNat]
    omega
  have HQ1 := Lib.hid q1
  have HQ2 := Lib.hid q2
  have hp0 : (0 : Int) ≤ (p.length : Int) := Int.natCast_nonneg _
  generalize (BitVec.ofNat 32 (p.length / 536870912)) = x1 at *
  generalize (BitVec.ofNat 32 (8 * p.length)) = x2 at *
  generalize (p.length : Int) = N at *
  clear q1 q2 hb
  have s56 : ∀ w, (Instr.sliceAt 54 (.pointer (some ⟨A + 1, 0, none⟩)) (some (.int .i64 56)) none none).run Tryd.prog w = .ok (.slice (some ⟨A + 1, 56, none⟩) 8 8) w := fun w => cut_arr Tryd.underlying54 num_cells Tryd.sizeOf5 w (A + 1) 56 (by omega)
  have s60 : ∀ w, (Instr.sliceAt 54 (.pointer (some ⟨A + 1, 0, none⟩)) (some (.int .i64 60)) none none).run Tryd.prog w = .ok (.slice (some ⟨A + 1, 60, none⟩) 4 4) w := fun w => cut_arr Tryd.underlying54 num_cells Tryd.sizeOf5 w (A + 1) 60 (by omega)
  by_cases h56 : f < 56
  · have h57 : (f : Int) < 56 := by omega
    have HP1 := put_any (A + 1) 56 8 8 lb x1 _ w4 H2.out (by rw [HLB.out]; omega) (by omega)
    rw [HQ1.out] at HP1
    have HP1 := Lib.hid HP1
    go_wp2_with fail
    refine HP1.out.mono ?_
    rintro e w5 ⟨rfl, hb, hg⟩
    have H1 := Lib.hid (H1.out.grown hg (by simp))
    have H3 := Lib.hid (H3.out.grown hg (by simp))
    have HE := Lib.hid (ext_grown HE.out hg (by omega))
    have H2 := Lib.hid hb
    clear hb hg HP1
    have HP2 := put_any (A + 1) 60 4 4 (put4 lb 56 x1) x2 _ w5 H2.out (by rw [put4_length, HLB.out]; omega) (by omega)
    rw [HQ2.out] at HP2
    have HP2 := Lib.hid HP2
    go_wp2_with fail
    refine HP2.out.mono ?_
    rintro e w6 ⟨rfl, hb, hg⟩
    have H1 := Lib.hid (H1.out.grown hg (by simp))
    have H3 := Lib.hid (H3.out.grown hg (by simp))
    have HE := Lib.hid (ext_grown HE.out hg (by omega))
    have H2 := Lib.hid hb
    clear hb hg HP2
    have HI3 : Hid ((Tryd.prog.info? 54).map (·.size) = some ((put4 (put4 lb 56 x1) 60 x2).map bval).length) := Lib.hid (by rw [List.length_map, put4_length, put4_length, HLB.out]; exact Tryd.arr54)
    have HI4 : Hid ((Tryd.prog.info? 49).map (·.size) = some (ints .u32 (ws (mixF h (put4 (put4 lb 56 x1) 60 x2)))).length) := Lib.hid (by rw [ints_length, ws_length, mixF_length, HR.out]; exact Tryd.arr49)
    have HI5 : Hid ((ints .u32 (ws (mixF h (put4 (put4 lb 56 x1) 60 x2)))).length = (ints .u32 (List.replicate 8 0)).length) := Lib.hid (by rw [ints_length, ws_length, mixF_length, HR.out, ints_length, List.length_replicate])
    have HM := Lib.hid (mixed_any h (put4 (put4 lb 56 x1) 60 x2) w6 HR.out (by rw [put4_length, put4_length, HLB.out]) (HG.out.ext HE.out))
    go_wp2_with (first | (refine wpList_load_blk rfl _ _ rfl A rfl _ _ _ _ H1.out Tryd.underlying49 HI1.out ?_) | (refine wpList_load_blk rfl _ _ rfl (A + 1) rfl _ _ _ _ H2.out Tryd.underlying54 HI3.out ?_))
    refine HM.out.mono ?_
    rintro e w7 ⟨rfl, hb⟩
    have H3 := Lib.hid (ext_blk H3.out hb)
    have HE := Lib.hid (HE.out.trans hb)
    clear hb
    go_wp2_with (refine wpList_store_blk rfl _ _ _ rfl (A + 1 + 1) (ints .u32 (ws (mixF h (put4 (put4 lb 56 x1) 60 x2)))) rfl rfl _ _ H3.out HI5.out HI4.out (ints_one _ _) ?_; intro w8 hb8 hg8)
    refine bodyPost_ret (result_blk rfl _ (A + 1 + 1) _ _ _ _ rfl hb8 Tryd.underlying49 HI4.out) rfl ?_
    exact ⟨by rw [HC1.out h56], ext_grown HE.out hg8 (by omega)⟩
  · have h57 : 56 ≤ (f : Int) := by omega
    have HMA := Lib.hid (mixed_any h lb w4 HR.out HLB.out (HG.out.ext HE.out))
    go_wp2_with (first | (refine wpList_load_blk rfl _ _ rfl A rfl _ _ _ _ H1.out Tryd.underlying49 HI1.out ?_) | (refine wpList_load_blk rfl _ _ rfl (A + 1) rfl _ _ _ _ H2.out Tryd.underlying54 HI2.out ?_))
    refine HMA.out.mono ?_
    rintro e w9 ⟨rfl, hb⟩
    have H1 := Lib.hid (ext_blk H1.out hb)
    have H2 := Lib.hid (ext_blk H2.out hb)
    have H3 := Lib.hid (ext_blk H3.out hb)
    have HE := Lib.hid (HE.out.trans hb)
    clear hb HMA HI1
    have HRM : Hid ((mixF h lb).length = 8) := Lib.hid (by rw [mixF_length, HR.out])
    have HC3 : Hid (R = _) := Lib.hid (HC2.out (by omega))
    generalize mixF h lb = h1 at *
    have HI1 : Hid ((Tryd.prog.info? 49).map (·.size) = some (ints .u32 (ws h1)).length) := Lib.hid (by rw [ints_length, ws_length, HRM.out]; exact Tryd.arr49)
    have HI6 : Hid ((ints .u32 (ws h1)).length = (ints .u32 (ws h)).length) := Lib.hid (by rw [ints_length, ws_length, HRM.out, ints_length, ws_length, HR.out])
    have HI7 : Hid ((Tryd.prog.info? 54).map (·.size) = some ((List.replicate 64 (0 : UInt8)).map bval).length) := Lib.hid Tryd.arr54
    have HI8 : Hid (((List.replicate 64 (0 : UInt8)).map bval).length = (lb.map bval).length) := Lib.hid (by rw [List.length_map, List.length_map, HLB.out, List.length_replicate])
    have hbz := build_block
    go_upto_region 6 with (first | (refine wpList_store_blk rfl _ _ _ rfl A (ints .u32 (ws h1)) rfl rfl _ _ H1.out HI6.out HI1.out (ints_one _ _) ?_; intro w10 hb10 hg10; have K1 := Lib.hid hb10; have K2 := Lib.hid (H2.out.grown hg10 (by simp)); have K3 := Lib.hid (H3.out.grown hg10 (by simp <;> omega)); have KE := Lib.hid (ext_grown HE.out hg10 (by omega)); clear hb10 hg10) | (refine wpList_store_blk rfl _ _ _ rfl (A + 1) ((List.replicate 64 (0 : UInt8)).map bval) rfl rfl _ _ K2.out HI8.out HI7.out (bval_one _) ?_; intro w11 hb11 hg11))
    have H1 := Lib.hid (K1.out.grown hg11 (by simp))
    have H3 := Lib.hid (K3.out.grown hg11 (by simp))
    have HE := Lib.hid (ext_grown KE.out hg11 (by omega))
    have H2 := Lib.hid hb11
    have HLZ : Hid ((List.replicate 64 (0 : UInt8)).length = 64) := Lib.hid (List.length_replicate)
    generalize List.replicate 64 (0 : UInt8) = lz at *
    clear hb11 hg11 K1 K2 K3 KE HI6 HI7 HI8 HI2
    have HP1 := put_any (A + 1) 56 8 8 lz x1 _ w11 H2.out (by rw [HLZ.out]; omega) (by omega)
    rw [HQ1.out] at HP1
    have HP1 := Lib.hid HP1
    go_wp2_with fail
    refine HP1.out.mono ?_
    rintro e w5 ⟨rfl, hb, hg⟩
    have H1 := Lib.hid (H1.out.grown hg (by simp))
    have H3 := Lib.hid (H3.out.grown hg (by simp))
    have HE := Lib.hid (ext_grown HE.out hg (by omega))
    have H2 := Lib.hid hb
    clear hb hg HP1
    have HP2 := put_any (A + 1) 60 4 4 (put4 lz 56 x1) x2 _ w5 H2.out (by rw [put4_length, HLZ.out]; omega) (by omega)
    rw [HQ2.out] at HP2
    have HP2 := Lib.hid HP2
    go_wp2_with fail
    refine HP2.out.mono ?_
    rintro e w6 ⟨rfl, hb, hg⟩
    have H1 := Lib.hid (H1.out.grown hg (by simp))
    have H3 := Lib.hid (H3.out.grown hg (by simp))
    have HE := Lib.hid (ext_grown HE.out hg (by omega))
    have H2 := Lib.hid hb
    clear hb hg HP2
    have HI3 : Hid ((Tryd.prog.info? 54).map (·.size) = some ((put4 (put4 lz 56 x1) 60 x2).map bval).length) := Lib.hid (by rw [List.length_map, put4_length, put4_length, HLZ.out]; exact Tryd.arr54)
    have HI4 : Hid ((Tryd.prog.info? 49).map (·.size) = some (ints .u32 (ws (mixF h1 (put4 (put4 lz 56 x1) 60 x2)))).length) := Lib.hid (by rw [ints_length, ws_length, mixF_length, HRM.out]; exact Tryd.arr49)
    have HI5 : Hid ((ints .u32 (ws (mixF h1 (put4 (put4 lz 56 x1) 60 x2)))).length = (ints .u32 (List.replicate 8 0)).length) := Lib.hid (by rw [ints_length, ws_length, mixF_length, HRM.out, ints_length, List.length_replicate])
    have HM := Lib.hid (mixed_any h1 (put4 (put4 lz 56 x1) 60 x2) w6 HRM.out (by rw [put4_length, put4_length, HLZ.out]) (HG.out.ext HE.out))
    go_wp2_with (first | (refine wpList_load_blk rfl _ _ rfl A rfl _ _ _ _ H1.out Tryd.underlying49 HI1.out ?_) | (refine wpList_load_blk rfl _ _ rfl (A + 1) rfl _ _ _ _ H2.out Tryd.underlying54 HI3.out ?_))
    refine HM.out.mono ?_
    rintro e w7 ⟨rfl, hb⟩
    have H3 := Lib.hid (ext_blk H3.out hb)
    have HE := Lib.hid (HE.out.trans hb)
    clear hb
    go_wp2_with (refine wpList_store_blk rfl _ _ _ rfl (A + 1 + 1) (ints .u32 (ws (mixF h1 (put4 (put4 lz 56 x1) 60 x2)))) rfl rfl _ _ H3.out HI5.out HI4.out (ints_one _ _) ?_; intro w8 hb8 hg8)
    refine bodyPost_ret (result_blk rfl _ (A + 1 + 1) _ _ _ _ rfl hb8 Tryd.underlying49 HI4.out) rfl ?_
    exact ⟨by rw [HC3.out], ext_grown HE.out hg8 (by omega)⟩

end Go.Proofs.YtcfmobgnlejpeaaDoor

/- The walk of package pieces' move: the next bytes of the open string, laid over a block. Each theorem names its own conditions. -/
namespace Go.Proofs.YtcfmobgnlejpeaaDoor
open Go.RowKit
set_option linter.unusedVariables false
set_option linter.unusedSimpArgs false

theorem splice_map (l c : List UInt8) (f : Nat) : splice (l.map bval) f (c.map bval) = (l.take f ++ c ++ l.drop (f + c.length)).map bval := by
  unfold splice
  simp
theorem num_one : (Tryd.prog.info? 5).map (·.size) = some 1 := by kernel_rfl
/-- A slice's length. -/
def lenV : Value → Nat
  | .slice _ n _ => n
  | _ => 0
theorem lenV_row {w : World} {v : Value} {vs : List Value} (h : Row1 w v vs) : lenV v = vs.length := by
  obtain ⟨a, cap, rfl, _⟩ := h
  rfl
theorem front_take (xr : List UInt8) (n : Nat) : ∃ c : List UInt8, c.length = Nat.min xr.length n ∧ xr = c ++ xr.drop c.length ∧ c = xr.take n := by
  refine ⟨xr.take n, by rw [List.length_take, Nat.min_comm], ?_, rfl⟩
  rcases Nat.le_total n xr.length with h | h
  · rw [List.length_take, Nat.min_eq_left h, List.take_append_drop]
  · rw [List.take_of_length_le h, List.drop_length, List.append_nil]

set_option maxRecDepth 100000 in
set_option maxHeartbeats 4000000 in
theorem move_any (w0 w : World) (M Bo f K : Nat) (ov bv : Value) (o l : List UInt8) (T : TypeId) (hM : Blk w M [ov, bv] 52) (ho : Row1 w0 ov (o.map bval)) (hl : Blk w Bo (l.map bval) T) (hlen : l.length = K) (hf : f < K) (hK : K ≤ 128)
    (he : Ext w0 w) (h0 : w0.heap.size ≤ M) (hMB : M < Bo) :
    Calls Tryd.prog 31 #[.pointer (some ⟨M, 0, none⟩), .slice (some ⟨Bo, f, none⟩) (K - f) (K - f)] w fun e w' =>
      ∃ ov' c, c = o.take (K - f) ∧ e = .returned (.int .i64 (c.length : Int)) ∧ Blk w' M [ov', bv] 52 ∧ Row1 w0 ov' ((o.drop c.length).map bval) ∧ Blk w' Bo ((l.take f ++ c ++ l.drop (f + c.length)).map bval) T ∧ Below M w w' := by
  obtain ⟨c, hcl, hcx, hct⟩ := front_take o (K - f)
  have hcm : c.length ≤ o.length := by rw [hcl]; exact Nat.min_le_left _ _
  have hcm2 : c.length ≤ K - f := by rw [hcl]; exact Nat.min_le_right _ _
  obtain ⟨v', hv', hrun⟩ := row_cut Tryd.underlying22 Tryd.sizeOf5 ho c.length (by rw [List.length_map]; exact hcm)
  rw [← List.map_drop] at hv'
  obtain ⟨a3, cap3, rfl, t1, t2, t3, t4⟩ := ho
  rw [List.length_map] at t1 hrun hM
  unfold maxLen at t2
  have HCS : Hid (0 < (c.map bval).length → some (⟨Bo, f, none⟩ : Addr) = some ⟨Bo, f, none⟩ ∧ ∃ ad, a3 = some ad ∧ ∀ (j : Nat) (v : Value), (c.map bval)[j]? = some v → w.cell? (ad.add j) = some v) := Lib.hid (fun h => by
    rw [List.length_map] at h
    obtain ⟨b3, off3, rfl, t5, t6⟩ := t4 (by intro e; have h := congrArg List.length e; rw [List.length_map] at h; simp only [List.length_nil] at h; omega)
    refine ⟨rfl, _, rfl, fun j v hj => ?_⟩
    have hjl : j < c.length := by
      rcases Nat.lt_or_ge j c.length with h | h
      · exact h
      · rw [List.getElem?_eq_none (by rw [List.length_map]; exact h)] at hj; cases hj
    have e := t6 j (by rw [List.length_map]; omega)
    have e2 : (o.map bval)[j]? = (c.map bval)[j]? := by rw [hcx, List.map_append, List.getElem?_append_left (by rw [List.length_map]; exact hjl)]
    rw [WideShapes.add_plain, ← hj, ← e2, ← e]
    exact he.cell (p := ⟨b3, off3 + j, none⟩) t5)
  have HBO := Lib.hid (hl : w.heap[Bo]? = some (.cells (l.map bval).toArray T (0, 0)))
  have HCL : Hid ((c.map bval).length = Nat.min o.length (K - f)) := Lib.hid (by rw [List.length_map, hcl])
  have HFT2 : Hid (f + (c.map bval).length ≤ (l.map bval).length) := Lib.hid (by rw [List.length_map, List.length_map, hlen]; omega)
  have HBR := Lib.hid (Below.refl M w)
  have HSP := Lib.hid (splice_map l c f)
  have HM := Lib.hid hM
  obtain ⟨a4, cap4, rfl, _⟩ := id hv'
  have HV := Lib.hid hv'
  generalize ((o.drop c.length).map bval).length = n4 at *
  have HCT := Lib.hid hct
  have c0 := hM.cell 0
  have f0 := hM.free 0
  simp only [List.getElem?_cons_zero, List.getElem?_cons_succ] at c0
  have hcm3 : (c.length : Int) ≤ (o.length : Int) := by omega
  have hc0 : (0 : Int) ≤ (c.length : Int) := Int.natCast_nonneg _
  have hMlt := hM.lt
  clear hM hl hv' hcx hct t3 t4 he hcl
  go_enter Tryd.func31, Tryd.ntmps31
  go_upto_region 2 with (refine wpList_copy_splice rfl (.tmp 6) (.tmp 10) 22 22 rfl 5 Tryd.underlying22 num_one (some ⟨Bo, f, none⟩) a3 (K - f) (K - f) o.length cap3 rfl rfl Bo f (l.map bval) T HBO.out (c.map bval) HCL.out HCS.out HFT2.out (bval_one _) (M + 1) w (Below.refl _ w) (by omega) ?_; intro w5 hc5 hb5)
  have hg5 := hc5.out
  rw [HSP.out] at hg5
  have HM5 := Lib.hid (HM.out.same (hb5.block M (by omega)))
  have HO5 : Hid (Blk w5 Bo ((l.take f ++ c ++ l.drop (f + c.length)).map bval) T) := Lib.hid hg5
  have HE5 := Lib.hid (hb5.mono (Nat.le_succ M))
  have c0 := HM5.out.cell 0
  have f0 := HM5.out.free 0
  simp only [List.getElem?_cons_zero, List.getElem?_cons_succ] at c0
  clear hc5 hb5 hg5 HCS HBO HCL HFT2 HBR HSP HM
  go_wp2_with fail
  go_ret
  exact ⟨_, c, HCT.out, rfl, HM5.out.set 0 _, HV.out, HO5.out.far (by simp; omega) _, Below.setCell HE5.out (by simp) _⟩

end Go.Proofs.YtcfmobgnlejpeaaDoor

/- The walk of package pieces' Fill: a block is filled with what is still to be read. Each theorem names its own conditions. -/
namespace Go.Proofs.YtcfmobgnlejpeaaDoor
open Go.RowKit
set_option linter.unusedVariables false
set_option linter.unusedSimpArgs false

/-- A message in block M of which r is still to be read; its strings lie in w0. -/
def MsgSt (w0 w : World) (M : Nat) (r : List UInt8) : Prop :=
  ∃ (ov bv : Value) (o : List UInt8) (ls : List (List UInt8)), Blk w M [ov, bv] 52 ∧ Row1 w0 ov (o.map bval) ∧ RowB w0 bv ls ∧ r = o ++ ls.flatten
theorem MsgSt.same {w0 w w' : World} {M : Nat} {r : List UInt8} (h : MsgSt w0 w M r) (hb : w'.heap[M]? = w.heap[M]?) : MsgSt w0 w' M r := by
  obtain ⟨ov, bv, o, ls, h1, h2⟩ := h
  exact ⟨ov, bv, o, ls, h1.same hb, h2⟩
theorem MsgSt.lt {w0 w : World} {M : Nat} {r : List UInt8} (h : MsgSt w0 w M r) : M < w.heap.size := by
  obtain ⟨ov, bv, o, ls, h1, h2⟩ := h
  exact h1.lt
/-- What is left behind the first of a list of strings. -/
theorem rowB_tail {w : World} {v : Value} {l : List UInt8} {ls : List (List UInt8)} (h : RowB w v (l :: ls)) :
    ∃ (b off cap : Nat) (x v' : Value), v = .slice (some ⟨b, off, none⟩) (ls.length + 1) cap ∧ cap ≤ maxLen ∧ b < w.heap.size ∧ w.cell? ⟨b, off, none⟩ = some x ∧ Row1 w x (l.map bval) ∧ RowB w v' ls ∧
      ∀ w', (Instr.sliceAt 40 v (some (.int .i64 1)) none none).run Tryd.prog w' = .ok v' w' := by
  obtain ⟨vals, hr, hlen, hx⟩ := h
  match vals, hlen with
  | x :: vals, hlen =>
    obtain ⟨v', hv', hrun⟩ := row_cut Tryd.underlying40 Tryd.sizeOf22 hr 1 (by simp)
    obtain ⟨a, cap, rfl, h1, h2, h3, h4⟩ := hr
    obtain ⟨b, off, rfl, h5, h6⟩ := h4 (by simp)
    have hl : vals.length = ls.length := by simpa using hlen
    refine ⟨b, off, cap, x, v', by rw [List.length_cons, hl], h2, h5, by simpa using h6 0 (by simp), hx 0 x l rfl rfl, ⟨vals, hv', hl, fun i y k hy hk => hx (i + 1) y k (by simpa using hy) (by simpa using hk)⟩, hrun⟩
theorem rowB_form {w : World} {v : Value} {ls : List (List UInt8)} (h : RowB w v ls) : ∃ a cap, v = .slice a ls.length cap ∧ cap ≤ maxLen ∧ ls.length ≤ cap := by
  obtain ⟨vals, hr, hlen, hx⟩ := h
  obtain ⟨a, cap, rfl, h1, h2, _⟩ := hr
  exact ⟨a, cap, by rw [hlen], h2, by omega⟩
theorem row_slice {w : World} {v : Value} {l : List Value} (h : Row1 w v l) : ∃ a n cap, v = .slice a n cap := by
  obtain ⟨a, cap, rfl, _⟩ := h
  exact ⟨_, _, _, rfl⟩
def behindAt (w : World) (M : Nat) : Nat := ((w.cell? ⟨M, 1, none⟩).map lenV).getD 0
theorem cut_row (w : World) (Bo p K : Nat) (hp : p < K) : (Instr.sliceAt 22 (.slice (some ⟨Bo, 0, none⟩) K K) (some (.int .i64 (p : Int))) none none).run Tryd.prog w = .ok (.slice (some ⟨Bo, p, none⟩) (K - p) (K - p)) w := by
  have e2 : Tryd.prog.elem 22 = 5 := by unfold Program.elem; rw [Tryd.underlying22]
  have ht2 : Tryd.prog.underlying 22 = some (.slice (Tryd.prog.elem 22)) := by rw [e2]; exact Tryd.underlying22
  rw [run_sliceAt_slice w 22 _ _ _ _ ht2, run_slice_l (ht := ht2) (kl := .i64) (l := (p : Int)) (h0 := by omega) (h1 := by omega), e2, Tryd.sizeOf5]
  simp [sliced, WideShapes.add_plain, show ¬ K = p by omega]

/-- What Fill owes. -/
def FillSaid (w0 w w' : World) (M Bo K : Nat) (r l : List UInt8) (T : TypeId) (e : Ending) : Prop :=
  ∃ c, c = r.take K ∧ e = .returned (.int .i64 (c.length : Int)) ∧ MsgSt w0 w' M (r.drop K) ∧ Blk w' Bo ((c ++ l.drop c.length).map bval) T ∧ Below M w w'
/-- One more string is moved. -/
theorem fill_next {r c l1 : List UInt8} {ls : List (List UInt8)} {c2 : List UInt8} {K : Nat} (h : r = c ++ ([] ++ (l1 :: ls).flatten)) (hc : c.length ≤ K) (h2 : c2 = l1.take (K - c.length)) :
    r = (c ++ c2) ++ (l1.drop c2.length ++ ls.flatten) ∧ (c ++ c2).length ≤ K ∧ ((c ++ c2).length < K → l1.drop c2.length = []) := by
  refine ⟨?_, ?_, ?_⟩
  · rw [h, List.nil_append, List.flatten_cons, List.append_assoc]
    congr 1
    rw [← List.append_assoc]
    congr 1
    rw [h2]
    rcases Nat.le_total (K - c.length) l1.length with h | h
    · rw [List.length_take, Nat.min_eq_left h, List.take_append_drop]
    · rw [List.take_of_length_le h, List.drop_length, List.append_nil]
  · rw [List.length_append, h2, List.length_take]; omega
  · intro h3
    rw [List.length_append, h2, List.length_take] at h3
    refine List.drop_eq_nil_of_le ?_
    rw [h2, List.length_take]
    omega
theorem fill_row (c c2 l : List UInt8) : ((c ++ l.drop c.length).take c.length ++ c2 ++ (c ++ l.drop c.length).drop (c.length + c2.length)) = (c ++ c2) ++ l.drop (c ++ c2).length := by
  rw [List.take_append_of_le_length (Nat.le_refl _), List.take_length, List.length_append]
  congr 1
  rw [List.drop_append, List.drop_eq_nil_of_le (by omega), List.nil_append, List.drop_drop]
  congr 1
  omega

set_option maxRecDepth 100000 in
set_option maxHeartbeats 8000000 in
theorem fill_any (w0 w : World) (M Bo K : Nat) (r l : List UInt8) (T : TypeId) (hS : MsgSt w0 w M r) (hl : Blk w Bo (l.map bval) T) (hlen : l.length = K) (hK0 : 0 < K) (hK : K ≤ 128)
    (he : Ext w0 w) (h0 : w0.heap.size ≤ M) (hMB : M < Bo) :
    Calls Tryd.prog 25 #[.pointer (some ⟨M, 0, none⟩), .slice (some ⟨Bo, 0, none⟩) K K] w fun e w' => FillSaid w0 w w' M Bo K r l T e := by
  obtain ⟨ov, bv, o, ls, hM, ho, hb, hr⟩ := hS
  have hmv := move_any w0 w M Bo 0 K ov bv o l T hM ho hl hlen hK0 hK he h0 hMB
  rw [Nat.sub_zero] at hmv
  have HMV := Lib.hid hmv
  have HB := Lib.hid hb
  have HR := Lib.hid hr
  have HE0 := Lib.hid he
  have HL := Lib.hid hlen
  clear hmv hb hr hM ho hl he hlen
  go_enter Tryd.func25, Tryd.ntmps25
  go_wp2_with fail
  refine HMV.out.mono ?_
  rintro e w1 ⟨ov1, c, hc, rfl, hM, ho, hB, hbel⟩
  have HM1 := Lib.hid hM
  have HO1 := Lib.hid ho
  have HB1 : Hid (Blk w1 Bo ((c ++ l.drop c.length).map bval) T) := Lib.hid (by simpa using hB)
  have HE1 := Lib.hid hbel
  have HC := Lib.hid hc
  clear hM ho hB hbel hc HMV
  have HREL : Hid (r = c ++ (o.drop c.length ++ ls.flatten) ∧ c.length ≤ K ∧ (c.length < K → o.drop c.length = [])) := Lib.hid (by
    refine ⟨?_, ?_, ?_⟩
    · rw [HR.out, HC.out]
      rcases Nat.le_total K o.length with h | h
      · rw [List.length_take, Nat.min_eq_left h, ← List.append_assoc, List.take_append_drop]
      · rw [List.take_of_length_le h, List.drop_length, List.nil_append]
    · rw [HC.out, List.length_take]; exact Nat.min_le_left _ _
    · intro h
      rw [HC.out, List.length_take] at h
      refine List.drop_eq_nil_of_le ?_
      rw [HC.out, List.length_take]
      show o.length ≤ min K o.length
      omega)
  go_wp2_with fail
  go_loopw [5] (fun i5 wr => ∃ (c o : List UInt8) (ls : List (List UInt8)) (ov bv : Value), i5 = .int .i64 (c.length : Int) ∧ (r = c ++ (o ++ ls.flatten) ∧ c.length ≤ K ∧ (c.length < K → o = [])) ∧ Blk wr M [ov, bv] 52 ∧ Row1 w0 ov (o.map bval) ∧ RowB w0 bv ls ∧ Blk wr Bo ((c ++ l.drop c.length).map bval) T ∧ Below M w wr) (fun _ wr => behindAt wr M)
  case atStart => exact ⟨c, o.drop c.length, ls, ov1, bv, rfl, HREL.out, HM1.out, HO1.out, HB.out, HB1.out, HE1.out⟩
  case round =>
    clear HREL HM1 HO1 HB HB1 HE1 HC HR
    obtain ⟨c, o, ls, ov, bv, rfl, ⟨hr, hcK, hco⟩, hM, ho, hb, hB, hbel⟩ := hrel
    have c0 := hM.cell 0
    have c1 := hM.cell 1
    have f0 := hM.free 0
    have f1 := hM.free 1
    simp only [List.getElem?_cons_zero, List.getElem?_cons_succ] at c0 c1
    by_cases hlt : c.length < K
    · have ho2 := hco hlt
      subst ho2
      have k1 : (c.length : Int) < (K : Int) := by omega
      cases ls with
      | nil =>
        obtain ⟨ab, capb, rfl, g1, g2⟩ := rowB_form hb
        have HF : Hid (MsgSt w0 wr M (r.drop K)) := Lib.hid ⟨ov, _, [], [], hM, ho, hb, by rw [hr]; simpa using Nat.le_of_lt hlt⟩
        have HBX := Lib.hid hB
        have HBL := Lib.hid hbel
        have HT : Hid (c = r.take K) := Lib.hid (by rw [hr]; simp only [List.flatten_nil, List.append_nil]; exact (List.take_of_length_le hcK).symm)
        clear hM ho hb hB hbel hr hco
        simp only [List.length_nil] at c1
        go_wp2_with fail
        go_ret
        unfold FillSaid
        exact ⟨c, HT.out, rfl, HF.out, HBX.out, HBL.out⟩
      | cons l1 ls =>
        obtain ⟨b', off', capb, xv, bv', rfl, g1, g2, g3, g4, g5, g6⟩ := rowB_tail hb
        obtain ⟨xa, xn, xcap, hxe⟩ := row_slice g4
        subst hxe
        obtain ⟨ba, bcap, hbe, g7, g8⟩ := rowB_form g5
        subst hbe
        have cx : wr.cell? ⟨b', off', none⟩ = some (.slice xa xn xcap) := by
          rw [← g3]
          exact (Below.trans HE0.out (hbel.mono h0)).cell (p := ⟨b', off', none⟩) g2
        have hcut := cut_row wr Bo c.length K hlt
        have n0 : (0 : Int) ≤ (ls.length : Int) := Int.natCast_nonneg _
        have n1 : (0 : Int) < (ls.length : Int) + 1 := by omega
        have n2 : (0 : Int) < ((ls.length + 1 : Nat) : Int) := by omega
        have n3 : (1 : Int) ≤ ((ls.length + 1 : Nat) : Int) := by omega
        have HFT := Lib.hid (show behindAt wr M = ls.length + 1 by unfold behindAt; rw [c1]; rfl)
        have HR := Lib.hid hr
        have HM := Lib.hid hM
        have HBX := Lib.hid hB
        have HBL := Lib.hid hbel
        have HX := Lib.hid g4
        have HBV := Lib.hid g5
        unfold maxLen at g1 g7
        clear hM ho hb hB hbel hr hco g2 g3 g4 g5
        go_upto_region 3 with (fail)
        go_region
        have HM2 : Hid (Blk ((wr.setCell ⟨M, 0, none⟩ (.slice xa xn xcap)).setCell ⟨M, 1, none⟩ (.slice ba ls.length bcap)).drew M [.slice xa xn xcap, .slice ba ls.length bcap] 52) := Lib.hid (((HM.out.set 0 _).set 1 _).drewN 1)
        have HBX2 : Hid (Blk ((wr.setCell ⟨M, 0, none⟩ (.slice xa xn xcap)).setCell ⟨M, 1, none⟩ (.slice ba ls.length bcap)).drew Bo ((c ++ l.drop c.length).map bval) T) := Lib.hid (((HBX.out.far (by simp; omega) _).far (by simp; omega) _).drewN 1)
        have HBL2 : Hid (Below M w ((wr.setCell ⟨M, 0, none⟩ (.slice xa xn xcap)).setCell ⟨M, 1, none⟩ (.slice ba ls.length bcap)).drew) := Lib.hid ((Below.setCell (Below.setCell HBL.out (by simp) _) (by simp) _).drew)
        generalize ((wr.setCell ⟨M, 0, none⟩ (.slice xa xn xcap)).setCell ⟨M, 1, none⟩ (.slice ba ls.length bcap)).drew = w2 at *
        clear HM HBX HBL c0 c1 f0 f1 cx
        have HMV := Lib.hid (move_any w0 w2 M Bo c.length K _ _ l1 (c ++ l.drop c.length) T HM2.out HX.out HBX2.out (by simp [HL.out]; omega) hlt hK (Below.trans HE0.out (HBL2.out.mono h0)) h0 hMB)
        have hcut := cut_row w2 Bo c.length K hlt
        go_wp2_with fail
        refine HMV.out.mono ?_
        rintro e w3 ⟨ov', c2, hc2, rfl, hM, ho, hB, hbel⟩
        rw [fill_row] at hB
        have HN := Lib.hid (fill_next HR.out hcK hc2)
        have HM3 := Lib.hid hM
        have HO3 := Lib.hid ho
        have HB3 := Lib.hid hB
        have HBL3 := Lib.hid (Below.trans HBL2.out hbel)
        have hc2l : (c2.length : Int) ≤ 128 := by have := HN.out.2.1; rw [List.length_append] at this; omega
        have hc20 : (0 : Int) ≤ (c2.length : Int) := Int.natCast_nonneg _
        have c1 := HM3.out.cell 1
        simp only [List.getElem?_cons_zero, List.getElem?_cons_succ] at c1
        have HMS := Lib.hid (show behindAt w3 M = ls.length by unfold behindAt; rw [c1]; rfl)
        clear hM ho hB hbel hc2 HMV HM2 HBX2 HBL2 c1
        go_wp2_with fail
        go_roundw
        case rel => exact ⟨c ++ c2, _, ls, _, _, by rw [List.length_append]; go_num, HN.out, HM3.out, HO3.out, HBV.out, HB3.out, HBL3.out⟩
        case measure => rw [HMS.out, HFT.out]; omega
    · have hcK2 : c.length = K := by omega
      have hlt2 : ¬ (c.length : Int) < (K : Int) := by omega
      have hd2 : decide ((c.length : Int) < (K : Int)) = false := decide_eq_false hlt2
      have HF : Hid (MsgSt w0 wr M (r.drop K)) := Lib.hid ⟨ov, bv, o, ls, hM, ho, hb, by rw [hr, List.drop_append_of_le_length (by omega), List.drop_of_length_le (by omega), List.nil_append]⟩
      have HBX := Lib.hid hB
      have HBL := Lib.hid hbel
      have HT : Hid (c = r.take K) := Lib.hid (by rw [hr, List.take_append_of_le_length (by omega), List.take_of_length_le (by omega)])
      clear hM ho hb hB hbel hr hco hcK2
      go_wp2_with fail
      go_ret
      unfold FillSaid
      exact ⟨c, HT.out, rfl, HF.out, HBX.out, HBL.out⟩

end Go.Proofs.YtcfmobgnlejpeaaDoor

/- The walk of package pieces' Of. Each theorem names its own conditions. -/
namespace Go.Proofs.YtcfmobgnlejpeaaDoor
open Go.RowKit
set_option linter.unusedVariables false
set_option linter.unusedSimpArgs false

theorem msg_size : (Tryd.prog.info? 52).map (·.size) = some (#[Value.slice none 0 0, Value.slice none 0 0]).size := by kernel_rfl

set_option maxRecDepth 100000 in
set_option maxHeartbeats 4000000 in
theorem of_any (a : Option Addr) (n cap : Nat) (w : World) :
    Calls Tryd.prog 24 #[.slice a n cap] w fun e w' => e = .returned (.agg #[.slice none 0 0, .slice a n cap]) ∧ Below w.heap.size w w' := by
  go_enter Tryd.func24, Tryd.ntmps24
  go_wp2_with fail
  refine bodyPost_ret (results_cell_row rfl _ _ w.heap.size _ _ _ _ rfl (Blk.made w [.slice none 0 0, .slice a n cap] 52) Tryd.underlying52 rfl msg_size) rfl ?_
  exact ⟨rfl, Ext.alloc w (.cells #[.slice none 0 0, .slice a n cap] 52)⟩

end Go.Proofs.YtcfmobgnlejpeaaDoor

/- The walk of package sha's Sum. Each theorem names its own conditions. -/
namespace Go.Proofs.YtcfmobgnlejpeaaDoor
open Go.RowKit
set_option linter.unusedVariables false
set_option linter.unusedSimpArgs false

/-- One more block of a message. -/
theorem hRun_next (m x : List UInt8) (n : Nat) (hx : x = (m.drop (64 * n)).take 64) : mixF (hRun m n) x = hRun m (n + 1) := by rw [hRun_mix, hx]
/-- The last piece, laid over a block. -/
theorem last_top {c l d : List UInt8} {n : Nat} (h : c = d.take 64) (hn : c.length = n) (hd : n < 64) : (c ++ l.drop c.length).take n = d := by
  have hl : d.length = n := by
    rw [h, List.length_take] at hn
    omega
  rw [← hn, List.take_append_of_le_length (Nat.le_refl _), List.take_length, h, List.take_of_length_le (by omega)]
theorem filled_length {c l d : List UInt8} (h : c = d.take 64) (hl : l.length = 64) : (c ++ l.drop c.length).length = 64 := by
  have : c.length ≤ 64 := by rw [h, List.length_take]; omega
  simp
  omega
/-- The state of the hash of m: n blocks told, the next piece of it laid in the block. -/
structure ShaSt (w0 w : World) (Bh Bm Bo : Nat) (m : List UInt8) (n : Nat) (c l : List UInt8) : Prop where
  all : l.length = 64
  few : 64 * n + c.length ≤ m.length
  piece : c = (m.drop (64 * n)).take 64
  blkH : Blk w Bh (ints .u32 (ws (hRun m n))) 49
  msg : MsgSt w0 w Bm ((m.drop (64 * n)).drop 64)
  blkO : Blk w Bo ((c ++ l.drop c.length).map bval) 54

set_option maxRecDepth 100000 in
set_option maxHeartbeats 8000000 in
theorem Sum_num (v : Value) (ls : List (List UInt8)) (w : World) (hv : RowB w v ls) (hb : ls.flatten.length ≤ 1099511627776) (hG : GlobR w) :
    Calls Tryd.prog 21 #[v] w fun e w' => e = .returned (.agg ((sha256 ls.flatten).map bval).toArray) ∧ Below w.heap.size w w' := by
  obtain ⟨a, cap, rfl, r1, r2⟩ := rowB_form hv
  obtain ⟨m, hm⟩ : ∃ m, m = ls.flatten := ⟨_, rfl⟩
  rw [← hm] at hb ⊢
  have HMD := Lib.hid hm
  clear hm
  have HRB := Lib.hid hv
  have HG := Lib.hid hG
  have HB := Lib.hid hb
  have HZ := Lib.hid (Blk.made w (ints .u8 (List.replicate 32 0)) 25)
  have HE := Lib.hid (Ext.alloc w (.cells (ints .u8 (List.replicate 32 0)).toArray 25))
  unfold maxLen at r1
  clear hv hG hb
  go_enter Tryd.func21, Tryd.ntmps21
  go_wp2_with fail
  change Calls _ _ _ (w.alloc (.cells (ints .u8 (List.replicate 32 0)).toArray 25)) _
  generalize w.alloc (.cells (ints .u8 (List.replicate 32 0)).toArray 25) = w1 at *
  obtain ⟨A, hA⟩ : ∃ A, A = w.heap.size := ⟨_, rfl⟩
  have HZ := HZ.out
  rw [← hA] at HZ ⊢
  have hA2 : w.heap.size ≤ A := by omega
  have HZ := Lib.hid HZ
  clear hA
  refine (start_any w1).mono ?_
  rintro e w2 ⟨rfl, hb⟩
  have HZ := Lib.hid (ext_blk HZ.out hb)
  have HE := Lib.hid (HE.out.trans hb)
  clear hb
  have HZL := Lib.hid HZ.out.lt
  have HH := Lib.hid (Blk.made w2 (ints .u32 (List.replicate 8 0)) 49)
  have HZ := Lib.hid (HZ.out.alloc (.cells (ints .u32 (List.replicate 8 0)).toArray 49))
  have HS := Lib.hid HE.out.size
  have HE := Lib.hid (HE.out.trans (Ext.alloc w2 (.cells (ints .u32 (List.replicate 8 0)).toArray 49)))
  go_upto_region 2 with (refine wpList_store_blk rfl _ _ _ rfl w2.heap.size (ints .u32 (ws H256)) rfl rfl _ _ HH.out rfl Tryd.arr49 (ints_one _ _) ?_; intro w3 hb3 hg3)
  have HZ := Lib.hid (HZ.out.grown hg3 (by have := HZL.out; simp; omega))
  have HE := Lib.hid (ext_grown HE.out hg3 HS.out)
  have HH := Lib.hid hb3
  have HAB : Hid (A < w2.heap.size) := HZL
  generalize w2.heap.size = Bh at *
  clear hb3 hg3 HZL HS
  go_wp2_with fail
  refine (of_any a ls.length cap w3).mono ?_
  rintro e w4 ⟨rfl, hb⟩
  have HZ := Lib.hid (ext_blk HZ.out hb)
  have HHL := Lib.hid (Nat.lt_of_lt_of_le HH.out.lt hb.size)
  have HH := Lib.hid (ext_blk HH.out hb)
  have HE := Lib.hid (HE.out.trans hb)
  clear hb
  go_upto_region 3 with (fail)
  have HM := Lib.hid (Blk.made w4 [.slice none 0 0, .slice a ls.length cap] 52)
  have HH := Lib.hid (HH.out.alloc (.cells #[.slice none 0 0, .slice a ls.length cap] 52))
  have HZ := Lib.hid (HZ.out.alloc (.cells #[.slice none 0 0, .slice a ls.length cap] 52))
  have HS4 := Lib.hid HE.out.size
  have HE := Lib.hid (HE.out.trans (Ext.alloc w4 (.cells #[.slice none 0 0, .slice a ls.length cap] 52)))
  have HML : Hid (w4.heap.size < (w4.alloc (.cells #[.slice none 0 0, .slice a ls.length cap] 52)).heap.size) := Lib.hid (by simp)
  have HM : Hid (MsgSt w (w4.alloc (.cells #[.slice none 0 0, .slice a ls.length cap] 52)) w4.heap.size m) := Lib.hid ⟨_, _, [], ls, HM.out, Row1.nil w, HRB.out, by rw [HMD.out]; simp⟩
  generalize w4.alloc (.cells #[.slice none 0 0, .slice a ls.length cap] 52) = w5 at *
  have HBM : Hid (Bh < w4.heap.size) := HHL
  have hS4 : w.heap.size ≤ w4.heap.size := HS4.out
  generalize w4.heap.size = Bm at *
  clear HHL HS4
  have HO : Hid (Blk (w5.alloc (.cells (ints .u8 (List.replicate 64 0)).toArray 54)) w5.heap.size ((List.replicate 64 (0 : UInt8)).map bval) 54) := Lib.hid (Blk.made w5 (ints .u8 (List.replicate 64 0)) 54)
  have HM : Hid (MsgSt w (w5.alloc (.cells (ints .u8 (List.replicate 64 0)).toArray 54)) Bm m) := Lib.hid (HM.out.same (heap_alloc_old w5 _ HML.out))
  have HH := Lib.hid (HH.out.alloc (.cells (ints .u8 (List.replicate 64 0)).toArray 54))
  have HZ := Lib.hid (HZ.out.alloc (.cells (ints .u8 (List.replicate 64 0)).toArray 54))
  have HE := Lib.hid (HE.out.trans (Ext.alloc w5 (.cells (ints .u8 (List.replicate 64 0)).toArray 54)))
  go_upto_region 4 with (fail)
  change Code.wp _ _ _ _ (w5.alloc (.cells (ints .u8 (List.replicate 64 0)).toArray 54))
  generalize w5.alloc (.cells (ints .u8 (List.replicate 64 0)).toArray 54) = w6 at *
  generalize w5.heap.size = Bo at *
  have HF := Lib.hid (fill_any w w6 Bm Bo 64 m (List.replicate 64 0) 54 HM.out HO.out rfl (by omega) (by omega) HE.out hS4 HML.out)
  clear HM HO
  go_wp2_with fail
  refine HF.out.mono ?_
  intro e w7 hf
  unfold FillSaid at hf
  obtain ⟨c, hc, rfl, hM, hO, hbel⟩ := hf
  have HH := Lib.hid (HH.out.same (hbel.block Bh HBM.out))
  have HZ := Lib.hid (HZ.out.same (hbel.block A (Nat.lt_trans HAB.out HBM.out)))
  have HE : Hid (Ext w w7) := Lib.hid (Below.trans HE.out (hbel.mono hS4))
  have HST : Hid (ShaSt w w7 Bh Bm Bo m 0 c (List.replicate 64 0)) := Lib.hid ⟨rfl, by rw [hc, List.length_take]; omega, by rw [hc]; rfl, HH.out, hM, hO⟩
  clear HH hc hM hO hbel HF HRB
  go_wp2_with fail
  go_loopw [4, 7] (fun i4 i7 wr => ∃ (n : Nat) (c l : List UInt8), i4 = .int .i64 (64 * (n : Int)) ∧ i7 = .int .i64 (c.length : Int) ∧ ShaSt w wr Bh Bm Bo m n c l ∧ Blk wr A (ints .u8 (List.replicate 32 0)) 25 ∧ Ext w wr) (fun i4 _ _ => m.length - (intOf i4).toNat)
  case atStart => exact ⟨0, c, List.replicate 64 0, rfl, rfl, HST.out, HZ.out, HE.out⟩
  case round =>
    clear HST HZ HE
    obtain ⟨n, c, l, rfl, rfl, hst, hz, hbel⟩ := hrel
    have n0 : (0 : Int) ≤ (n : Int) := Int.natCast_nonneg _
    have c0 : (0 : Int) ≤ (c.length : Int) := Int.natCast_nonneg _
    have hc64 : c.length ≤ 64 := by rw [hst.piece, List.length_take]; omega
    have hcl := hst.few
    have hn40 : 64 * (n : Int) + (c.length : Int) ≤ 1099511627776 := by have := HB.out; omega
    have HJ := Lib.hid (filled_length (c := c) (l := l) hst.piece hst.all)
    have HR8 := Lib.hid (hRun_length m n)
    have HI1 : Hid ((Tryd.prog.info? 49).map (·.size) = some (ints .u32 (ws (hRun m n))).length) := Lib.hid (by rw [ints_length, ws_length, hRun_length]; exact Tryd.arr49)
    have HI2 : Hid ((Tryd.prog.info? 54).map (·.size) = some ((c ++ l.drop c.length).map bval).length) := Lib.hid (by rw [List.length_map, HJ.out]; exact Tryd.arr54)
    have HH := Lib.hid hst.blkH
    have HO := Lib.hid hst.blkO
    have HMS := Lib.hid hst.msg
    have HP := Lib.hid hst.piece
    have HA := Lib.hid hst.all
    have HZ := Lib.hid hz
    have HE := Lib.hid hbel
    have HFW := Lib.hid hcl
    clear hz hbel hst hcl
    by_cases h64 : c.length = 64
    · have t64 : ((c.length : Int) == 64) = true := by simp; omega
      have HC := Lib.hid h64
      have HX : Hid (c ++ l.drop c.length = (m.drop (64 * n)).take 64) := Lib.hid (by rw [h64, List.drop_eq_nil_of_le (by rw [HA.out]; omega), List.append_nil]; exact HP.out)
      have hn41 : 64 * (n : Int) + 64 ≤ 1099511627776 := by omega
      have HMX := Lib.hid (mixed_any (hRun m n) (c ++ l.drop c.length) wr HR8.out HJ.out (HG.out.ext HE.out))
      rw [hRun_next m _ n HX.out] at HMX
      have HJ2 := HJ
      generalize c ++ l.drop c.length = l2 at *
      have HI3 : Hid ((Tryd.prog.info? 49).map (·.size) = some (ints .u32 (ws (hRun m (n + 1)))).length) := Lib.hid (by rw [ints_length, ws_length, hRun_length]; exact Tryd.arr49)
      have HI4 : Hid ((ints .u32 (ws (hRun m (n + 1)))).length = (ints .u32 (ws (hRun m n))).length) := Lib.hid (by rw [ints_length, ws_length, hRun_length, ints_length, ws_length, hRun_length])
      clear h64 hc64
      generalize hRun m n = h0 at *
      obtain ⟨h1, hh1⟩ : ∃ h1, h1 = hRun m (n + 1) := ⟨_, rfl⟩
      rw [← hh1] at HMX HI3 HI4
      have HH1 := Lib.hid hh1
      clear hh1
      go_wp2_with (first | (refine wpList_load_blk rfl _ _ rfl Bh rfl _ _ _ _ HH.out Tryd.underlying49 HI1.out ?_) | (refine wpList_load_blk rfl _ _ rfl Bo rfl _ _ _ _ HO.out Tryd.underlying54 HI2.out ?_))
      refine HMX.out.mono ?_
      rintro e w8 ⟨rfl, hb⟩
      have HZ := Lib.hid (ext_blk HZ.out hb)
      have HH := Lib.hid (ext_blk HH.out hb)
      have HO := Lib.hid (ext_blk HO.out hb)
      have HMS := Lib.hid (HMS.out.same (hb.block Bm HMS.out.lt))
      have HE := Lib.hid (HE.out.trans hb)
      clear hb HMX
      go_upto_region 7 with (refine wpList_store_blk rfl _ _ _ rfl Bh (ints .u32 (ws h1)) rfl rfl _ _ HH.out HI4.out HI3.out (ints_one _ _) ?_; intro w9 hb9 hg9)
      have HZ := Lib.hid (HZ.out.grown hg9 (by have := HAB.out; simp; omega))
      have HO := Lib.hid (HO.out.grown hg9 (by have := HBM.out; have := HML.out; simp; omega))
      have HMS := Lib.hid (HMS.out.same (hg9.block Bm HMS.out.lt (by have := HBM.out; simp; omega)))
      have HE := Lib.hid (ext_grown HE.out hg9 (by have := HAB.out; omega))
      have HH := Lib.hid hb9
      clear hb9 hg9
      have HF := Lib.hid (fill_any w w9 Bm Bo 64 _ l2 54 HMS.out HO.out HJ2.out (by omega) (by omega) HE.out hS4 HML.out)
      clear HMS HO
      go_wp2_with fail
      refine HF.out.mono ?_
      intro e w10 hf
      unfold FillSaid at hf
      obtain ⟨c2, hc2, rfl, hM, hO, hbel⟩ := hf
      have HH := Lib.hid (HH.out.same (hbel.block Bh HBM.out))
      have HZ := Lib.hid (HZ.out.same (hbel.block A (Nat.lt_trans HAB.out HBM.out)))
      have HE : Hid (Ext w w10) := Lib.hid (Below.trans HE.out (hbel.mono hS4))
      have e64 : (m.drop (64 * n)).drop 64 = m.drop (64 * (n + 1)) := by rw [List.drop_drop, show 64 * n + 64 = 64 * (n + 1) from by omega]
      rw [e64] at hc2 hM
      have HST : Hid (ShaSt w w10 Bh Bm Bo m (n + 1) c2 l2) := Lib.hid ⟨HJ2.out, by rw [hc2, List.length_take, List.length_drop]; have := HFW.out; have := HC.out; omega, hc2, by rw [← HH1.out]; exact HH.out, hM, hO⟩
      have HFN : Hid (64 * (n + 1) ≤ m.length) := Lib.hid (by have := HFW.out; have := HC.out; omega)
      clear HH hc2 hM hO hbel HF e64 t64
      go_wp2_with fail
      go_roundw
      case rel => exact ⟨n + 1, c2, l2, by go_num, rfl, HST.out, HZ.out, HE.out⟩
      case measure => have := HFN.out; simp [intOf]; omega
    · have t64 : ((c.length : Int) == 64) = false := by simp; omega
      have hpl : m.length = 64 * n + c.length := by
        have h := congrArg List.length HP.out
        rw [List.length_take, List.length_drop] at h
        have := HFW.out
        omega
      have hpi : 64 * (n : Int) + (c.length : Int) = (m.length : Int) := by omega
      have HTP := Lib.hid (last_top (l := l) HP.out rfl (by omega))
      have HCA := Lib.hid (closed_any m (c ++ l.drop c.length) n c.length wr hpl (by omega) HJ.out HTP.out HB.out (HG.out.ext HE.out))
      clear h64 hpl hc64
      generalize c ++ l.drop c.length = l2 at *
      go_wp2_with (first | (refine wpList_load_blk rfl _ _ rfl Bh rfl _ _ _ _ HH.out Tryd.underlying49 HI1.out ?_) | (refine wpList_load_blk rfl _ _ rfl Bo rfl _ _ _ _ HO.out Tryd.underlying54 HI2.out ?_))
      refine HCA.out.mono ?_
      rintro e w5 ⟨rfl, hb⟩
      have HZ := Lib.hid (ext_blk HZ.out hb)
      have HE := Lib.hid (HE.out.trans hb)
      clear hb HCA
      have HSH : Hid (outB (hRun (padded m) ((m.length + 72) / 64)) = sha256 m) := Lib.hid rfl
      have HL8 := Lib.hid (hRun_length (padded m) ((m.length + 72) / 64))
      generalize hRun (padded m) ((m.length + 72) / 64) = R at *
      go_wp2_with fail
      refine (numOf_any R HL8.out w5).mono ?_
      rintro e w6 ⟨rfl, hb⟩
      have HZ := Lib.hid (ext_blk HZ.out hb)
      have HE := Lib.hid (HE.out.trans hb)
      clear hb
      obtain ⟨o, ho⟩ : ∃ o, o = sha256 m := ⟨_, rfl⟩
      rw [HSH.out, ← ho]
      have HOL : Hid (o.length = 32) := Lib.hid (by rw [ho, sha256_length])
      have HOO := Lib.hid ho
      clear ho
      have HIo : Hid ((Tryd.prog.info? 25).map (·.size) = some (o.map bval).length) := Lib.hid (num_size HOL.out)
      have HLo : Hid ((o.map bval).length = (ints .u8 (List.replicate 32 0)).length) := Lib.hid (by rw [List.length_map, HOL.out, ints_length, List.length_replicate])
      go_wp2_with (refine wpList_store_blk rfl _ _ _ rfl A (o.map bval) rfl rfl _ _ HZ.out HLo.out HIo.out (bval_one _) ?_; intro w7 hb7 hg7)
      refine bodyPost_ret (result_blk rfl _ A _ _ _ _ rfl hb7 Tryd.underlying25 HIo.out) rfl ?_
      exact ⟨by rw [HOO.out], ext_grown HE.out hg7 (by omega)⟩

end Go.Proofs.YtcfmobgnlejpeaaDoor

/- The hash of one list, of three, of four, laid in a slice that was just made. Each theorem names its own conditions. -/
namespace Go.Proofs.YtcfmobgnlejpeaaDoor
open Go.RowKit
set_option linter.unusedVariables false
set_option linter.unusedSimpArgs false

/-- The hash of one list, laid in a slice that was just made. -/
theorem Sum_one (x : Value) (l : List UInt8) (w : World) (hx : Row1 w x (l.map bval)) (hl : l.length ≤ 1099511627776) (hG : GlobR w) :
    Calls Tryd.prog 21 #[.slice (some ⟨w.heap.size, 0, none⟩) 1 1] (w.alloc (.cells #[x] 22)) fun e w' => e = .returned (.agg ((sha256 l).map bval).toArray) ∧ Ext w w' := by
  have he := Ext.alloc w (.cells #[x] 22)
  have h := Sum_num _ [l] _ (rowB1 (Row1.made w #[x] 22 _ 1 [x] rfl rfl rfl (by unfold maxLen; omega)) (hx.below he)) (by simpa using hl) (hG.ext he)
  refine h.mono fun e w' hh => ⟨?_, he.trans hh.2⟩
  rw [hh.1]
  simp

/-- The hash of three lists, laid in a slice that was just made. -/
theorem Sum_three (x y z : Value) (l m n o : List UInt8) (w : World) (hx : Row1 w x (l.map bval)) (hy : Row1 w y (m.map bval)) (hz : Row1 w z (n.map bval)) (ho : [l, m, n].flatten = o) (hl : o.length ≤ 1099511627776) (hG : GlobR w) :
    Calls Tryd.prog 21 #[.slice (some ⟨w.heap.size, 0, none⟩) 3 3] (w.alloc (.cells #[x, y, z] 22)) fun e w' => e = .returned (.agg ((sha256 o).map bval).toArray) ∧ Ext w w' := by
  subst ho
  have he := Ext.alloc w (.cells #[x, y, z] 22)
  exact (Sum_num _ [l, m, n] _ (rowB3 (Row1.made w #[x, y, z] 22 _ 3 [x, y, z] rfl rfl rfl (by unfold maxLen; omega)) (hx.below he) (hy.below he) (hz.below he)) hl (hG.ext he)).mono fun e w' hh => ⟨hh.1, he.trans hh.2⟩
/-- The hash of four lists, laid in a slice that was just made. -/
theorem Sum_four (x y z u : Value) (l m n k o : List UInt8) (w : World) (hx : Row1 w x (l.map bval)) (hy : Row1 w y (m.map bval)) (hz : Row1 w z (n.map bval)) (hu : Row1 w u (k.map bval)) (ho : [l, m, n, k].flatten = o) (hl : o.length ≤ 1099511627776) (hG : GlobR w) :
    Calls Tryd.prog 21 #[.slice (some ⟨w.heap.size, 0, none⟩) 4 4] (w.alloc (.cells #[x, y, z, u] 22)) fun e w' => e = .returned (.agg ((sha256 o).map bval).toArray) ∧ Ext w w' := by
  subst ho
  have he := Ext.alloc w (.cells #[x, y, z, u] 22)
  exact (Sum_num _ [l, m, n, k] _ (rowB4 (Row1.made w #[x, y, z, u] 22 _ 4 [x, y, z, u] rfl rfl rfl (by unfold maxLen; omega)) (hx.below he) (hy.below he) (hz.below he) (hu.below he)) hl (hG.ext he)).mono fun e w' hh => ⟨hh.1, he.trans hh.2⟩
theorem Tryd.info22 : (Tryd.prog.info? 22).map (fun i => (i.zero, i.size)) = some (some (.slice none 0 0), 1) := by kernel_rfl

end Go.Proofs.YtcfmobgnlejpeaaDoor
