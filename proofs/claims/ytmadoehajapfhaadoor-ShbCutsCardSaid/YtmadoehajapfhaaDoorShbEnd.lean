/- The walks of package shb's start, closed, numOf. Each theorem names its own conditions. -/
import Derived.Test.YtmadoehajapfhaaDoorShbMath
import Derived.Test.YtmadoehajapfhaaDoorDetEnds
import Derived.Test.YtmadoehajapfhaaDoorClearKit
namespace Go.Proofs.YtmadoehajapfhaaDoor
open Go.RowKit
set_option linter.unusedVariables false
set_option linter.unusedSimpArgs false

set_option maxHeartbeats 1000000 in
theorem start_anyQ (w : World) : Calls Tryd.prog 28 #[] w fun e w' => e = .returned (.agg (ints .u64 (qs H512)).toArray) ∧ Below w.heap.size w w' := by
  have HZ := Lib.hid (Blk.made w (ints .u64 (List.replicate 8 0)) 59)
  have HE := Lib.hid (Ext.alloc w (.cells (ints .u64 (List.replicate 8 0)).toArray 59))
  go_enter Tryd.func28, Tryd.ntmps28
  go_wp2_with (refine wpList_store_blk rfl _ _ _ rfl w.heap.size (ints .u64 (qs H512)) rfl rfl _ _ HZ.out rfl Tryd.arr59 (ints_one _ _) ?_; intro w1 hb1 hg1)
  refine bodyPost_ret (result_blk rfl _ w.heap.size _ _ _ _ rfl hb1 Tryd.underlying59 Tryd.arr59) rfl ?_
  exact ⟨rfl, ext_grown HE.out hg1 (Nat.le_refl _)⟩

theorem build_blockQ (w : World) : (Instr.build 62 #[]).run Tryd.prog w = .ok (.agg ((List.replicate 128 (0 : UInt8)).map bval).toArray) w := by
  simp [Instr.build, zero_block128]
  rfl
theorem index_wordsQ {T e : TypeId} {n : Nat} (hT : Tryd.prog.underlying T = some (.array n e)) (hs : ∀ w, (sizeOf e).run Tryd.prog w = .ok 1 w) (ha : ∀ w, (isAgg e).run Tryd.prog w = .ok false w) (h : List Q64) (hl : h.length = n) (k : Nat) (hk : k < n) (w : World) :
    (Instr.index T (.agg (ints .u64 (qs h)).toArray) (.int .i64 (k : Int))).run Tryd.prog w = .ok (.int .u64 (qi (h.getD k 0#64))) w := by
  have hg : (ints .u64 (qs h))[k]? = some (.int .u64 (qi (h.getD k 0#64))) := by rw [ints_get (by rw [qs_length, hl]; exact hk), qs_getD]
  have hi : 0 ≤ (k : Int) ∧ (k : Int) < (n : Int) := by omega
  unfold Instr.index
  simp only [asIntOf, Sem.run_bind, Sem.run_pure, Result.andThen_ok, run_underlying hT, hi, hs, part, ha]
  rw [if_pos ⟨trivial, trivial⟩]
  simp only [Sem.run_bind, hs, ha, Result.andThen_ok, Int.toNat_natCast, Nat.mul_one, List.getElem?_toArray, hg, Bool.false_eq_true, if_false, Sem.run_pure]

set_option maxRecDepth 100000 in
set_option maxHeartbeats 8000000 in
theorem sigOf_any (h : List Q64) (hh : h.length = 8) (w : World) : Calls Tryd.prog 30 #[.agg (ints .u64 (qs h)).toArray] w fun e w' => e = .returned (.agg ((outQ h).map bval).toArray) ∧ Below w.heap.size w w' := by
  have HH := Lib.hid hh
  have HB := Lib.hid (boxes3uQ w (ints .u64 (qs h)) (ints .u8 (List.replicate 64 0)) (ints .u8 (List.replicate 64 0)) 59 35 35)
  have HIr : Hid ((Tryd.prog.info? 59).map (·.size) = some (ints .u64 (qs h)).length) := Lib.hid (by rw [ints_length, qs_length, hh]; exact Tryd.arr59)
  clear hh
  go_enter Tryd.func30, Tryd.ntmps30
  go_upto_region 2 with (fail)
  obtain ⟨H1, H2, H3, HE⟩ := HB.out
  change Code.wp _ _ _ _ (((w.alloc (.cells (ints .u64 (qs h)).toArray 59)).alloc (.cells (ints .u8 (List.replicate 64 0)).toArray 35)).alloc (.cells (ints .u8 (List.replicate 64 0)).toArray 35))
  generalize (((w.alloc (.cells (ints .u64 (qs h)).toArray 59)).alloc (.cells (ints .u8 (List.replicate 64 0)).toArray 35)).alloc (.cells (ints .u8 (List.replicate 64 0)).toArray 35)) = w3 at *
  obtain ⟨A, hA⟩ : ∃ A, A = w.heap.size := ⟨_, rfl⟩
  rw [← hA] at H1 H2 H3 ⊢
  have hA2 : w.heap.size ≤ A := by omega
  have H1 := Lib.hid H1
  have H2 := Lib.hid H2
  have H3 := Lib.hid H3
  have HE : Hid (Ext w w3) := Lib.hid HE
  clear hA HB
  go_wp2_with (refine wpList_load_blk rfl _ _ rfl A rfl _ _ _ _ H1.out Tryd.underlying59 HIr.out ?_)
  go_loopw [7] (fun iv wr => ∃ (k : Nat), k ≤ 8 ∧ iv = .int .i64 (k : Int) ∧ Blk wr (A + 1) (ints .u8 (List.replicate 64 0)) 35 ∧ Blk wr (A + 1 + 1) ((outKQ h k).map bval) 35 ∧ Ext w wr) (fun iv _ => 8 - (intOf iv).toNat)
  case atStart => exact ⟨0, by omega, rfl, H2.out, H3.out, HE.out⟩
  case round =>
    clear H1 H2 H3 HE
    obtain ⟨k, hk, rfl, hb2, hb3, hbel⟩ := hrel
    have k0 : (0 : Int) ≤ (k : Int) := Int.natCast_nonneg _
    by_cases hlk : k < 8
    · have k1 : (k : Int) < 8 := by omega
      have hi := index_wordsQ Tryd.underlying59 Tryd.sizeOf55 Tryd.isAgg55 h HH.out k hlk
      have hs := cut_arrQ Tryd.underlying35 byte_cells Tryd.sizeOf5 wr (A + 1 + 1) (8 * k) (by omega)
      have e4 : ((8 * k : Nat) : Int) = 8 * (k : Int) := by omega
      rw [e4] at hs
      have HP := Lib.hid (put_anyQ (A + 1 + 1) (8 * k) (64 - 8 * k) (64 - 8 * k) (outKQ h k) (h.getD k 0#64) _ wr hb3 (by rw [outKQ_length]; omega) (by omega))
      have HK : Hid (outKQ h (k + 1) = put8 (outKQ h k) (8 * k) (h.getD k 0#64)) := Lib.hid rfl
      have H2 := Lib.hid hb2
      have HE := Lib.hid hbel
      clear hb2 hb3 hbel e4
      generalize h.getD k 0#64 = y at *
      go_wp2_with fail
      refine HP.out.mono ?_
      rintro e w4 ⟨rfl, hb, hg⟩
      have H2 := Lib.hid (H2.out.grown hg (by simp))
      have HE := Lib.hid (ext_grown HE.out hg (by omega))
      have H3 := Lib.hid hb
      clear hb hg HP hs hi
      go_wp2_with fail
      go_roundw
      case rel => exact ⟨k + 1, by omega, by go_num, H2.out, by rw [HK.out]; exact H3.out, HE.out⟩
      case measure => simp [intOf]; omega
    · have hk8 : k = 8 := by omega
      subst hk8
      rw [outKQ_full h HH.out] at hb3
      have H2 := Lib.hid hb2
      have H3 := Lib.hid hb3
      have HE := Lib.hid hbel
      clear hb2 hb3 hbel
      have HIo : Hid ((Tryd.prog.info? 35).map (·.size) = some ((outQ h).map bval).length) := Lib.hid (sig_size (outQ_length h))
      have HLo : Hid (((outQ h).map bval).length = (ints .u8 (List.replicate 64 0)).length) := Lib.hid (by rw [List.length_map, outQ_length, ints_length, List.length_replicate])
      go_wp2_with (first | (refine wpList_load_blk rfl _ _ rfl (A + 1 + 1) rfl _ _ _ _ H3.out Tryd.underlying35 HIo.out ?_) | (refine wpList_store_blk rfl _ _ _ rfl (A + 1) ((outQ h).map bval) rfl rfl _ _ H2.out HLo.out HIo.out (bval_one _) ?_; intro w4 hb4 hg4))
      refine bodyPost_ret (result_blk rfl _ (A + 1) _ _ _ _ rfl hb4 Tryd.underlying35 HIo.out) rfl ?_
      exact ⟨rfl, ext_grown HE.out hg4 (by omega)⟩

theorem cut_arr2Q {t : TypeId} {n : Nat} {e : TypeId} (ht : Tryd.prog.underlying t = some (.array n e)) (h : ∀ w, (sizeOf e).run Tryd.prog w = .ok 1 w) (w : World) (A p : Nat) (hp : p ≤ n) :
    ∃ o, o + (n - p) ≤ n ∧ (p < n → o = p) ∧ (Instr.sliceAt t (.pointer (some ⟨A, 0, none⟩)) (some (.int .i64 (p : Int))) none none).run Tryd.prog w = .ok (.slice (some ⟨A, o, none⟩) (n - p) (n - p)) w := by
  have e1 : Tryd.prog.arrayLen t = n := by unfold Program.arrayLen; rw [ht]
  have e2 : Tryd.prog.elem t = e := by unfold Program.elem; rw [ht]
  have hr := run_sliceAt_array_l w t ⟨A, 0, none⟩ (by rw [e1, e2]; exact ht) .i64 (p : Int) (by omega) (by rw [e1]; omega)
  rw [e2, h, e1] at hr
  by_cases hpn : n = p
  · refine ⟨0, by omega, by omega, ?_⟩
    rw [hr]
    simp [slicedAt, hpn]
  · refine ⟨p, by omega, fun _ => rfl, ?_⟩
    rw [hr]
    simp [slicedAt, Addr.add, hpn]
    exact fun h => h.symm
/-- The bit and the noughts behind it, laid over a block. -/
theorem laid_lastQ (l : List UInt8) (f o : Nat) (hl : l.length = 128) (hf : f < 128) (ho : f + 1 < 128 → o = f + 1) :
    laid ((l.map bval).set f (.int .u8 128)) o (List.replicate (127 - f) (.int .u8 0)) = (lastBQ l f).map bval := by
  rw [show 127 - f = 128 - (f + 1) from by omega]
  have e0 : (Value.int .u8 128) = bval 128 := rfl
  have e1 : l.set f 128 = l.take f ++ [128] ++ l.drop (f + 1) := by
    rw [List.set_eq_take_append_cons_drop, if_pos (by omega)]
    simp
  have e2 : (List.replicate (128 - (f + 1)) (Value.int .u8 0)) = (List.replicate (128 - (f + 1)) (0 : UInt8)).map bval := by rw [List.map_replicate]; rfl
  rw [e0, ← List.map_set, e1, e2]
  by_cases h : f + 1 < 128
  · rw [ho h, List.map_append]
    have h3 : f + 1 = ((l.take f ++ [128]).map bval).length := by simp; omega
    have h4 := laid_append ((List.replicate (128 - (f + 1)) (0 : UInt8)).map bval) ((l.take f ++ [128]).map bval) ((l.drop (f + 1)).map bval) (by simp; omega)
    rw [← h3] at h4
    rw [h4, ← List.map_append]
    unfold lastBQ
    rw [show 128 - (f + 1) = 127 - f from by omega]
    simp
  · have h3 : f = 127 := by omega
    subst h3
    unfold lastBQ
    simp [laid, hl]

set_option maxRecDepth 100000 in
set_option maxHeartbeats 8000000 in
/-- The hash of p, of which n blocks are told by h and f bytes lie in l. -/
theorem closed_anyQ (p l : List UInt8) (n f : Nat) (w : World) (hp : p.length = 128 * n + f) (hf : f < 128) (hl : l.length = 128) (hlf : l.take f = p.drop (128 * n)) (hb : p.length ≤ 1099511627776) (hG : GlobRQ w) :
    Calls Tryd.prog 31 #[.agg (ints .u64 (qs (gRun p n))).toArray, .agg (l.map bval).toArray, .int .i64 (f : Int), .int .i64 (p.length : Int)] w fun e w' =>
      e = .returned (.agg (ints .u64 (qs (gRun (paddedQ p) ((p.length + 144) / 128)))).toArray) ∧ Below w.heap.size w w' := by
  have HG := Lib.hid hG
  have HB := Lib.hid (boxes3uQ w (ints .u64 (qs (gRun p n))) (l.map bval) (ints .u64 (List.replicate 8 0)) 59 62 59)
  have HL := Lib.hid hl
  have HR := Lib.hid (gRun_length p n)
  have hb0 : (p.length : Int) ≤ 1099511627776 := by omega
  have hf0 : (f : Int) < 128 := by omega
  have HC1 : Hid (f < 112 → _) := Lib.hid (fun h112 => close_oneQ p l n f hp h112 hl hlf hb)
  have HC2 : Hid (112 ≤ f → _) := Lib.hid (fun h112 => close_twoQ p l n f hp h112 hf hl hlf hb)
  generalize gRun (paddedQ p) ((p.length + 144) / 128) = R at *
  generalize gRun p n = h at *
  have HLB := Lib.hid (lastBQ_length (l := l) (f := f) (by omega) hf)
  clear hG hlf hp
  go_enter Tryd.func31, Tryd.ntmps31
  go_upto_region 1 with (fail)
  obtain ⟨H1, H2, H3, HE⟩ := HB.out
  change Code.wp _ _ _ _ (((w.alloc (.cells (ints .u64 (qs h)).toArray 59)).alloc (.cells (l.map bval).toArray 62)).alloc (.cells (ints .u64 (List.replicate 8 0)).toArray 59))
  generalize (((w.alloc (.cells (ints .u64 (qs h)).toArray 59)).alloc (.cells (l.map bval).toArray 62)).alloc (.cells (ints .u64 (List.replicate 8 0)).toArray 59)) = w3 at *
  obtain ⟨A, hA⟩ : ∃ A, A = w.heap.size := ⟨_, rfl⟩
  rw [← hA] at H1 H2 H3 ⊢
  have hA2 : w.heap.size ≤ A := by omega
  have c0 : w3.cell? ⟨A + 1, f, none⟩ = some (.int .u8 ((l.getD f 0).toNat : Int)) := by rw [H2.cell, bval_get (by omega)]
  have f0 := H2.free f
  have H1 := Lib.hid H1
  have H2 := Lib.hid H2
  have H3 := Lib.hid H3
  have HE : Hid (Ext w w3) := Lib.hid HE
  clear hA HB hl
  generalize ((l.getD f 0).toNat : Int) = z0 at *
  obtain ⟨o, ho1, ho2, hs⟩ := cut_arr2Q Tryd.underlying62 Tryd.sizeOf5 (w3.setCell ⟨A + 1, f, none⟩ (.int .u8 128)) (A + 1) (f + 1) (by omega)
  have ef : ((f + 1 : Nat) : Int) = (f : Int) + 1 := by omega
  rw [ef] at hs
  have HB3 := Lib.hid (H2.out.set f (.int .u8 128))
  have hcl := run_clear_bytes (ty := 0) Tryd.underlying25 Tryd.zeroValue5 (A + 1) o (127 - f) (127 - f) _ _ HB3.out (by have := HL.out; simp; omega)
  have HLL := Lib.hid (laid_lastQ l f o HL.out hf ho2)
  clear ho1 ho2 ef
  go_upto_region 3 with (fail)
  have H2 := Blk.setCells (List.replicate (127 - f) (.int .u8 0)) _ o _ HB3.out
  rw [HLL.out] at H2
  have hg : w3.grownBy ((w3.setCell ⟨A + 1, f, none⟩ (.int .u8 128)).setCells (A + 1) o (List.replicate (127 - f) (.int .u8 0))) (some (A + 1)) := grownBy_setCells _ _ _ _ (grownBy_set (grownBy_refl w3 _) _ _)
  have H1 := Lib.hid (H1.out.grown hg (by simp))
  have H3 := Lib.hid (H3.out.grown hg (by simp))
  have HE := Lib.hid (ext_grown HE.out hg (by omega))
  have H2 := Lib.hid H2
  generalize (w3.setCell ⟨A + 1, f, none⟩ (.int .u8 128)).setCells (A + 1) o (List.replicate (127 - f) (.int .u8 0)) = w4 at *
  clear hg HB3 HLL hcl hs c0 f0
  generalize hLB : lastBQ l f = lb at *
  have HI1 : Hid ((Tryd.prog.info? 59).map (·.size) = some (ints .u64 (qs h)).length) := Lib.hid (by rw [ints_length, qs_length, HR.out]; exact Tryd.arr59)
  have HI2 : Hid ((Tryd.prog.info? 62).map (·.size) = some (lb.map bval).length) := Lib.hid (by rw [List.length_map, HLB.out]; exact Tryd.arr62)
  have q2 : (qi (BitVec.ofNat 64 (8 * p.length))) = (p.length : Int) * 8 := by
    unfold qi
    rw [BitVec.toNat_ofNat]
    omega
  have HQ2 := Lib.hid q2
  have hp0 : (0 : Int) ≤ (p.length : Int) := Int.natCast_nonneg _
  generalize (BitVec.ofNat 64 (8 * p.length)) = x2 at *
  generalize (p.length : Int) = N at *
  clear q2 hb
  have s120 : ∀ w, (Instr.sliceAt 62 (.pointer (some ⟨A + 1, 0, none⟩)) (some (.int .i64 120)) none none).run Tryd.prog w = .ok (.slice (some ⟨A + 1, 120, none⟩) 8 8) w := fun w => cut_arrQ Tryd.underlying62 byte_cells Tryd.sizeOf5 w (A + 1) 120 (by omega)
  by_cases h112 : f < 112
  · have h113 : (f : Int) < 112 := by omega
    have HP2 := put_anyQ (A + 1) 120 8 8 lb x2 _ w4 H2.out (by rw [HLB.out]; omega) (by omega)
    rw [HQ2.out] at HP2
    have HP2 := Lib.hid HP2
    go_wp2_with fail
    refine HP2.out.mono ?_
    rintro e w6 ⟨rfl, hb, hg⟩
    have H1 := Lib.hid (H1.out.grown hg (by simp))
    have H3 := Lib.hid (H3.out.grown hg (by simp))
    have HE := Lib.hid (ext_grown HE.out hg (by omega))
    have H2 := Lib.hid hb
    clear hb hg HP2
    have HI3 : Hid ((Tryd.prog.info? 62).map (·.size) = some ((put8 lb 120 x2).map bval).length) := Lib.hid (by rw [List.length_map, put8_length, HLB.out]; exact Tryd.arr62)
    have HI4 : Hid ((Tryd.prog.info? 59).map (·.size) = some (ints .u64 (qs (mixFQ h (put8 lb 120 x2)))).length) := Lib.hid (by rw [ints_length, qs_length, mixF_lengthQ, HR.out]; exact Tryd.arr59)
    have HI5 : Hid ((ints .u64 (qs (mixFQ h (put8 lb 120 x2)))).length = (ints .u64 (List.replicate 8 0)).length) := Lib.hid (by rw [ints_length, qs_length, mixF_lengthQ, HR.out, ints_length, List.length_replicate])
    have HM := Lib.hid (mixed_anyQ h (put8 lb 120 x2) w6 HR.out (by rw [put8_length, HLB.out]) (HG.out.ext HE.out))
    go_wp2_with (first | (refine wpList_load_blk rfl _ _ rfl A rfl _ _ _ _ H1.out Tryd.underlying59 HI1.out ?_) | (refine wpList_load_blk rfl _ _ rfl (A + 1) rfl _ _ _ _ H2.out Tryd.underlying62 HI3.out ?_))
    refine HM.out.mono ?_
    rintro e w7 ⟨rfl, hb⟩
    have H3 := Lib.hid (ext_blk H3.out hb)
    have HE := Lib.hid (HE.out.trans hb)
    clear hb
    go_wp2_with (refine wpList_store_blk rfl _ _ _ rfl (A + 1 + 1) (ints .u64 (qs (mixFQ h (put8 lb 120 x2)))) rfl rfl _ _ H3.out HI5.out HI4.out (ints_one _ _) ?_; intro w8 hb8 hg8)
    refine bodyPost_ret (result_blk rfl _ (A + 1 + 1) _ _ _ _ rfl hb8 Tryd.underlying59 HI4.out) rfl ?_
    exact ⟨by rw [HC1.out h112], ext_grown HE.out hg8 (by omega)⟩
  · have h113 : 112 ≤ (f : Int) := by omega
    have HMA := Lib.hid (mixed_anyQ h lb w4 HR.out HLB.out (HG.out.ext HE.out))
    go_wp2_with (first | (refine wpList_load_blk rfl _ _ rfl A rfl _ _ _ _ H1.out Tryd.underlying59 HI1.out ?_) | (refine wpList_load_blk rfl _ _ rfl (A + 1) rfl _ _ _ _ H2.out Tryd.underlying62 HI2.out ?_))
    refine HMA.out.mono ?_
    rintro e w9 ⟨rfl, hb⟩
    have H1 := Lib.hid (ext_blk H1.out hb)
    have H2 := Lib.hid (ext_blk H2.out hb)
    have H3 := Lib.hid (ext_blk H3.out hb)
    have HE := Lib.hid (HE.out.trans hb)
    clear hb HMA HI1
    have HRM : Hid ((mixFQ h lb).length = 8) := Lib.hid (by rw [mixF_lengthQ, HR.out])
    have HC3 : Hid (R = _) := Lib.hid (HC2.out (by omega))
    generalize mixFQ h lb = h1 at *
    have HI1 : Hid ((Tryd.prog.info? 59).map (·.size) = some (ints .u64 (qs h1)).length) := Lib.hid (by rw [ints_length, qs_length, HRM.out]; exact Tryd.arr59)
    have HI6 : Hid ((ints .u64 (qs h1)).length = (ints .u64 (qs h)).length) := Lib.hid (by rw [ints_length, qs_length, HRM.out, ints_length, qs_length, HR.out])
    have HI7 : Hid ((Tryd.prog.info? 62).map (·.size) = some ((List.replicate 128 (0 : UInt8)).map bval).length) := Lib.hid Tryd.arr62
    have HI8 : Hid (((List.replicate 128 (0 : UInt8)).map bval).length = (lb.map bval).length) := Lib.hid (by rw [List.length_map, List.length_map, HLB.out, List.length_replicate])
    have hbz := build_blockQ
    go_upto_region 6 with (first | (refine wpList_store_blk rfl _ _ _ rfl A (ints .u64 (qs h1)) rfl rfl _ _ H1.out HI6.out HI1.out (ints_one _ _) ?_; intro w10 hb10 hg10; have K1 := Lib.hid hb10; have K2 := Lib.hid (H2.out.grown hg10 (by simp)); have K3 := Lib.hid (H3.out.grown hg10 (by simp <;> omega)); have KE := Lib.hid (ext_grown HE.out hg10 (by omega)); clear hb10 hg10) | (refine wpList_store_blk rfl _ _ _ rfl (A + 1) ((List.replicate 128 (0 : UInt8)).map bval) rfl rfl _ _ K2.out HI8.out HI7.out (bval_one _) ?_; intro w11 hb11 hg11))
    have H1 := Lib.hid (K1.out.grown hg11 (by simp))
    have H3 := Lib.hid (K3.out.grown hg11 (by simp))
    have HE := Lib.hid (ext_grown KE.out hg11 (by omega))
    have H2 := Lib.hid hb11
    have HLZ : Hid ((List.replicate 128 (0 : UInt8)).length = 128) := Lib.hid (List.length_replicate)
    generalize List.replicate 128 (0 : UInt8) = lz at *
    clear hb11 hg11 K1 K2 K3 KE HI6 HI7 HI8 HI2
    have HP2 := put_anyQ (A + 1) 120 8 8 lz x2 _ w11 H2.out (by rw [HLZ.out]; omega) (by omega)
    rw [HQ2.out] at HP2
    have HP2 := Lib.hid HP2
    go_wp2_with fail
    refine HP2.out.mono ?_
    rintro e w6 ⟨rfl, hb, hg⟩
    have H1 := Lib.hid (H1.out.grown hg (by simp))
    have H3 := Lib.hid (H3.out.grown hg (by simp))
    have HE := Lib.hid (ext_grown HE.out hg (by omega))
    have H2 := Lib.hid hb
    clear hb hg HP2
    have HI3 : Hid ((Tryd.prog.info? 62).map (·.size) = some ((put8 lz 120 x2).map bval).length) := Lib.hid (by rw [List.length_map, put8_length, HLZ.out]; exact Tryd.arr62)
    have HI4 : Hid ((Tryd.prog.info? 59).map (·.size) = some (ints .u64 (qs (mixFQ h1 (put8 lz 120 x2)))).length) := Lib.hid (by rw [ints_length, qs_length, mixF_lengthQ, HRM.out]; exact Tryd.arr59)
    have HI5 : Hid ((ints .u64 (qs (mixFQ h1 (put8 lz 120 x2)))).length = (ints .u64 (List.replicate 8 0)).length) := Lib.hid (by rw [ints_length, qs_length, mixF_lengthQ, HRM.out, ints_length, List.length_replicate])
    have HM := Lib.hid (mixed_anyQ h1 (put8 lz 120 x2) w6 HRM.out (by rw [put8_length, HLZ.out]) (HG.out.ext HE.out))
    go_wp2_with (first | (refine wpList_load_blk rfl _ _ rfl A rfl _ _ _ _ H1.out Tryd.underlying59 HI1.out ?_) | (refine wpList_load_blk rfl _ _ rfl (A + 1) rfl _ _ _ _ H2.out Tryd.underlying62 HI3.out ?_))
    refine HM.out.mono ?_
    rintro e w7 ⟨rfl, hb⟩
    have H3 := Lib.hid (ext_blk H3.out hb)
    have HE := Lib.hid (HE.out.trans hb)
    clear hb
    go_wp2_with (refine wpList_store_blk rfl _ _ _ rfl (A + 1 + 1) (ints .u64 (qs (mixFQ h1 (put8 lz 120 x2)))) rfl rfl _ _ H3.out HI5.out HI4.out (ints_one _ _) ?_; intro w8 hb8 hg8)
    refine bodyPost_ret (result_blk rfl _ (A + 1 + 1) _ _ _ _ rfl hb8 Tryd.underlying59 HI4.out) rfl ?_
    exact ⟨by rw [HC3.out], ext_grown HE.out hg8 (by omega)⟩

end Go.Proofs.YtmadoehajapfhaaDoor
