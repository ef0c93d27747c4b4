/- Texts that belong together, one behind the other; each says in its own first remark what it shows. -/
import Derived.Test.YtoojcicbeclnhaaDoorProg
import Derived.Test.YtoojcicbeclnhaaDoorAll1
import Derived.Test.YtoojcicbeclnhaaDoorAll2
import Derived.Lib.SlBytesConst

/- The walk of the document's own Hex. Each theorem names its own conditions. -/
namespace Go.Proofs.YtoojcicbeclnhaaDoor
open Go.RowKit
set_option linter.unusedVariables false
set_option linter.unusedSimpArgs false

def hexD (n : Nat) : UInt8 := [48, 49, 50, 51, 52, 53, 54, 55, 56, 57, 97, 98, 99, 100, 101, 102].getD n 0
def hexL (l : List UInt8) : List UInt8 := l.flatMap fun c => [hexD (c.toNat / 16), hexD (c.toNat % 16)]
theorem hexL_length : ∀ l : List UInt8, (hexL l).length = 2 * l.length
  | [] => rfl
  | c :: r => by
    have := hexL_length r
    simp only [hexL, List.flatMap_cons, List.length_append, List.length_cons, List.length_nil] at *
    omega
theorem hexL_snoc (l : List UInt8) (k : Nat) (hk : k < l.length) : hexL (l.take (k + 1)) = hexL (l.take k) ++ [hexD ((l.getD k 0).toNat / 16), hexD ((l.getD k 0).toNat % 16)] := by
  rw [List.take_succ_eq_append_getElem hk]
  unfold hexL
  rw [List.flatMap_append]
  simp [List.getD, hk]
theorem index_hex (n : Nat) (hn : n < 16) (w : World) :
    (Instr.index 9 (.string { data := #[48, 49, 50, 51, 52, 53, 54, 55, 56, 57, 97, 98, 99, 100, 101, 102] }) (.int .u8 (n : Int))).run Tryd.prog w = .ok (bval (hexD n)) w := by
  rcases (by omega : n = 0 ∨ n = 1 ∨ n = 2 ∨ n = 3 ∨ n = 4 ∨ n = 5 ∨ n = 6 ∨ n = 7 ∨ n = 8 ∨ n = 9 ∨ n = 10 ∨ n = 11 ∨ n = 12 ∨ n = 13 ∨ n = 14 ∨ n = 15) with rfl | rfl | rfl | rfl | rfl | rfl | rfl | rfl | rfl | rfl | rfl | rfl | rfl | rfl | rfl | rfl <;> kernel_rfl
theorem and_u8_15 (n : Nat) : bits .and .u8 (n : Int) 15 = ((n % 16 : Nat) : Int) := by
  have h : (BitVec.ofInt 8 15).toNat = 2 ^ 4 - 1 := by decide
  have key : (BitVec.ofInt 8 (n : Int) &&& BitVec.ofInt 8 15).toNat = ((n : Int) % ((2 ^ 8 : Nat) : Int)).toNat % 2 ^ 4 := by
    rw [BitVec.toNat_and, BitVec.toNat_ofInt, h, Nat.and_two_pow_sub_one_eq_mod]
  show IntKind.u8.wrap ((BitVec.ofInt 8 (n : Int) &&& BitVec.ofInt 8 15).toNat : Nat) = _
  rw [key, IntKind.wrap_u8]
  omega

set_option maxRecDepth 100000 in
set_option maxHeartbeats 4000000 in
theorem hex_any (v : Value) (l : List UInt8) (w : World) (hv : Row1 w v (l.map bval)) (hb : l.length ≤ 1099511627776) :
    Calls Tryd.prog 15 #[v] w fun e w' => e = .returned (.string ⟨(hexL l).toArray⟩) ∧ Below w.heap.size w w' := by
  obtain ⟨i0, hi, hz0, hz1, hz2⟩ := info_parts Tryd.info5
  obtain ⟨a, cap, rfl, r1, r2, r3, r4⟩ := id hv
  unfold maxLen at r2
  rw [List.length_map] at r1 ⊢
  have HI0 := Lib.hid hi
  have HZ0 := Lib.hid hz0
  have HZ1 := Lib.hid hz1
  have HZ2 := Lib.hid hz2
  have HC := Lib.hid r4
  have HB := Lib.hid hb
  have HNIL : Hid (w.ownsRow w.heap.size 5 1 (.slice none 0 0) 0 []) := Lib.hid (World.ownsRow_nil _ _ _ _)
  clear hv r3 r4 hb hi hz0 hz1 hz2
  go_enter Tryd.func15, Tryd.ntmps15
  go_wp2_with fail
  go_loopw [3, 4] (fun x iv wr => ∃ (k : Nat) (xv : Value), k ≤ l.length ∧ xv = x ∧ iv = .int .i64 (k : Int) ∧ wr.ownsRow w.heap.size 5 1 xv (hexL (l.take k)).length ((hexL (l.take k)).map bval) ∧ Ext w wr) (fun _ iv _ => l.length - (intOf iv).toNat)
  case atStart => exact ⟨0, _, by omega, rfl, rfl, HNIL.out, Ext.refl w⟩
  case round =>
    clear HNIL
    obtain ⟨k, xv, hk, rfl, rfl, ho, hE⟩ := hrel
    have k0 : (0 : Int) ≤ (k : Int) := Int.natCast_nonneg _
    have HO := Lib.hid ho
    have HE := Lib.hid hE
    have HS := Lib.hid hE.size
    clear ho hE
    by_cases hlk : k < l.length
    · have k1 : (k : Int) < (l.length : Int) := by omega
      obtain ⟨b', off, rfl, hbs, hcell⟩ := HC.out (by intro e; have h := congrArg List.length e; rw [List.length_map] at h; simp only [List.length_nil] at h; omega)
      have c0 : wr.cell? ⟨b', off + k, none⟩ = some (.int .u8 ((l.getD k 0).toNat : Int)) := by
        have h := hcell k (by rw [List.length_map]; exact hlk)
        rw [bval_get hlk] at h
        rw [← h]
        exact HE.out.cell (p := ⟨b', off + k, none⟩) hbs
      have HSN := Lib.hid (hexL_snoc l k hlk)
      have HLL : Hid ((hexL (l.take k)).length ≤ 2199023255552) := Lib.hid (by rw [hexL_length, List.length_take]; have := HB.out; omega)
      have hn := UInt8.toNat_lt (l.getD k 0)
      generalize (l.getD k 0).toNat = n at *
      have i1 := index_hex (n / 16) (by omega)
      have i2 := index_hex (n % 16) (by omega)
      have d1 : ((n / 16 : Nat) : Int) = (n : Int) / 16 := by omega
      have d2 : ((n % 16 : Nat) : Int) = (n : Int) % 16 := by omega
      have d3 := and_u8_15 n
      rw [d2] at d3 i2
      rw [d1] at i1
      generalize hexD (n / 16) = x1 at *
      generalize hexD (n % 16) = x2 at *
      clear d1 d2 hcell
      have hbw : b' < wr.heap.size := Nat.lt_of_lt_of_le hbs HE.out.size
      go_wp2_with fail
      refine wp_region_from 13 3 14 rfl (by kernel_rfl) (by kernel_rfl) (fun d v c a w h => by cases d <;> exact h) (by kernel_rfl) ?_
      refine det_move _ (xv) (by rfl) rfl rfl ?_
      simp only [Act.put, List.setIfInBounds_toArray, List.set_cons_zero, List.set_cons_succ]
      refine det_move _ (.slice (some ⟨b', off, none⟩) l.length cap) (by rfl) rfl rfl ?_
      simp only [Act.put, List.setIfInBounds_toArray, List.set_cons_zero, List.set_cons_succ]
      refine det_move _ (.int .i64 (k : Int)) (by rfl) rfl rfl ?_
      simp only [Act.put, List.setIfInBounds_toArray, List.set_cons_zero, List.set_cons_succ]
      refine det_sindex _ _ _ _ b' off l.length cap k (by rfl) rfl rfl rfl Tryd.underlying22 hlk Tryd.sizeOf5 ?_
      simp only [Act.put, List.setIfInBounds_toArray, List.set_cons_zero, List.set_cons_succ]
      refine det_cell _ _ b' (off + k) (.int .u8 (n : Int)) (by rfl) rfl rfl (fun w' hw => by rw [← c0]; exact hw.cell (p := ⟨b', off + k, none⟩) hbw) Tryd.isAgg5 ?_
      simp only [Act.put, List.setIfInBounds_toArray, List.set_cons_zero, List.set_cons_succ]
      refine det_val (.int .u8 ((n : Int) / 16)) (by rfl) (fun w hw => by go_simp) ?_
      simp only [Act.put, List.setIfInBounds_toArray, List.set_cons_zero, List.set_cons_succ]
      refine det_vindex _ _ _ _ _ (bval x1) (by rfl) rfl rfl rfl i1 ?_
      simp only [Act.put, List.setIfInBounds_toArray, List.set_cons_zero, List.set_cons_succ]
      refine det_move _ (.slice (some ⟨b', off, none⟩) l.length cap) (by rfl) rfl rfl ?_
      simp only [Act.put, List.setIfInBounds_toArray, List.set_cons_zero, List.set_cons_succ]
      refine det_move _ (.int .i64 (k : Int)) (by rfl) rfl rfl ?_
      simp only [Act.put, List.setIfInBounds_toArray, List.set_cons_zero, List.set_cons_succ]
      refine det_sindex _ _ _ _ b' off l.length cap k (by rfl) rfl rfl rfl Tryd.underlying22 hlk Tryd.sizeOf5 ?_
      simp only [Act.put, List.setIfInBounds_toArray, List.set_cons_zero, List.set_cons_succ]
      refine det_cell _ _ b' (off + k) (.int .u8 (n : Int)) (by rfl) rfl rfl (fun w' hw => by rw [← c0]; exact hw.cell (p := ⟨b', off + k, none⟩) hbw) Tryd.isAgg5 ?_
      simp only [Act.put, List.setIfInBounds_toArray, List.set_cons_zero, List.set_cons_succ]
      refine det_and _ _ _ _ _ _ _ ((n : Int) % 16) (by rfl) rfl rfl rfl d3 ?_
      simp only [Act.put, List.setIfInBounds_toArray, List.set_cons_zero, List.set_cons_succ]
      refine det_vindex _ _ _ _ _ (bval x2) (by rfl) rfl rfl rfl i2 ?_
      simp only [Act.put, List.setIfInBounds_toArray, List.set_cons_zero, List.set_cons_succ]
      refine det_nil ?_
      refine end_step (k := 13) (by rfl) (by decide +kernel) (by decide +kernel) rfl (fun w1 hw1 => ?_)
      refine wp_buildSlice_d (some 24) _ _ _ _ rfl rfl #[bval x1, bval x2] i0 (.int .u8 0) Tryd.underlying22 HI0.out HZ0.out (by rw [HZ1.out]; decide) (by rw [HZ1.out]; decide) (by rw [HZ1.out]; kernel_rfl) ?_
      refine ⟨Ext.alloc _ _, anyB_done (by decide +kernel) (fun w2 hw2 => ?_)⟩
      simp only [Act.put, List.setIfInBounds_toArray, List.set_cons_zero, List.set_cons_succ]
      have HE2 := Lib.hid ((HE.out.trans hw1).trans ((Ext.alloc w1 (.cells #[bval x1, bval x2] 5)).trans hw2))
      have HO2 := Lib.hid (own_below (own_below (own_below HO.out hw1) (Ext.alloc w1 (.cells #[bval x1, bval x2] 5))) hw2)
      have HR2 : Hid (Row1 w2 (.slice (some ⟨w1.heap.size, 0, none⟩) 2 2) ([x1, x2].map bval)) := Lib.hid ((Row1.made w1 #[bval x1, bval x2] 5 _ 2 _ rfl rfl rfl (by unfold maxLen; omega)).below hw2)
      refine any_one (k := 14) (by rfl) (by decide +kernel) rfl ?_
      refine wp_append_row_d (some 25) _ _ 22 rfl rfl w.heap.size 5 i0 (.int .u8 0) 1 Tryd.underlying22 HI0.out HZ0.out HZ1.out HZ2.out rfl _ _ _ rfl HO2.out rfl HR2.out (bval_one _) (by have := HLL.out; unfold maxLen; simp; omega) (by have := HLL.out; simp; omega) HE2.out.size ?_
      intro v3 w3 hown3 hgrow3
      simp only [Act.put, List.setIfInBounds_toArray, List.set_cons_zero, List.set_cons_succ]
      refine any_one (k := 15) (by rfl) (by decide +kernel) rfl ?_
      refine wp_assign_d (some 3) _ v3 rfl rfl rfl ?_
      refine any_nil (by decide +kernel) ?_
      simp only [Act.put, List.setIfInBounds_toArray, List.set_cons_zero, List.set_cons_succ]
      have HX3 := Lib.hid (ext_own HE2.out HO2.out (Nat.le_refl _) hgrow3)
      have HO3 := Lib.hid hown3
      clear hown3 hgrow3
      go_wp2_with fail
      go_roundw
      case rel =>
        refine ⟨k + 1, v3, by omega, rfl, by go_num, ?_, HX3.out⟩
        rw [HSN.out, List.map_append, List.length_append]
        exact HO3.out
      case measure => simp [intOf]; omega
    · have hk2 : (l.length : Int) ≤ (k : Int) := by omega
      have hke : k = l.length := by omega
      have hrw := Row1.of_own HO.out
      rw [hke, List.take_length] at hrw
      have hst := run_string_row 22 9 5 Tryd.underlying22 Tryd.underlying5 Tryd.underlying9 hrw
      clear hrw hke
      go_wp2_with fail
      go_ret
      exact ⟨rfl, HE.out⟩

end Go.Proofs.YtoojcicbeclnhaaDoor

/- The walk of what every law of chapter 7 begins with: alive. Each theorem names its own conditions. -/
namespace Go.Proofs.YtoojcicbeclnhaaDoor
open Go.RowKit
set_option linter.unusedVariables false
set_option linter.unusedSimpArgs false

def jefe : List UInt8 := [74, 101, 102, 101]
def whatYa : List UInt8 := [119, 104, 97, 116, 32, 100, 111, 32, 121, 97, 32, 119, 97, 110, 116, 32, 102, 111, 114, 32, 110, 111, 116, 104, 105, 110, 103, 63]
theorem alive_hexM : hexL (hmac jefe whatYa) = [53, 98, 100, 99, 99, 49, 52, 54, 98, 102, 54, 48, 55, 53, 52, 101, 54, 97, 48, 52, 50, 52, 50, 54, 48, 56, 57, 53, 55, 53, 99, 55, 53, 97, 48, 48, 51, 102, 48, 56, 57, 100, 50, 55, 51, 57, 56, 51, 57, 100, 101, 99, 53, 56, 98, 57, 54, 52, 101, 99, 51, 56, 52, 51] := by decide +kernel

set_option maxRecDepth 100000 in
set_option maxHeartbeats 4000000 in
theorem alive_anyM (w : World) (hG : GlobR w) : Calls Tryd.prog 7 #[] w fun e w' => e = .returned (.bool true) ∧ Below w.heap.size w w' := by
  have HG := Lib.hid hG
  clear hG
  have kc := fun (w : World) (C : Array Value) (n c : Nat) => Lib.run_convert_bytes_const (P := Tryd.prog) w 22 5 C n c Tryd.underlying22 Tryd.underlying5
  have kc2 := fun (w : World) (D C : Array Value) (fr : Nat × Nat) (n c : Nat) => kc (w.alloc (.cells D 5 fr)) C n c
  simp only [size_alloc_w] at kc2
  go_enter Tryd.func7, Tryd.ntmps7
  go_wp2_with fail
  have HE1 := Lib.hid (Ext.alloc w (.cells (jefe.map bval).toArray 5 (4, 5)))
  have HR1 : Hid (Row1 (w.alloc (.cells (jefe.map bval).toArray 5 (4, 5))) (.slice (some ⟨w.heap.size, 0, none⟩) 4 4) (jefe.map bval)) := Lib.hid (Row1.made_mark w _ _ _ _ _ _ rfl rfl rfl (by unfold maxLen; omega))
  have HS1 : Hid ((w.alloc (.cells (jefe.map bval).toArray 5 (4, 5))).heap.size = w.heap.size + 1) := Lib.hid (by simp)
  change Calls _ _ _ (((w.alloc (.cells (jefe.map bval).toArray 5 (4, 5))).alloc (.cells (whatYa.map bval).toArray 5 (28, 29))).alloc (.cells #[.slice (some ⟨w.heap.size + 1, 0, none⟩) 28 28] 22)) _
  generalize w.alloc (.cells (jefe.map bval).toArray 5 (4, 5)) = w1 at *
  rw [← HS1.out]
  have HE2 := Lib.hid (Ext.alloc w1 (.cells (whatYa.map bval).toArray 5 (28, 29)))
  have HR2 : Hid (Row1 (w1.alloc (.cells (whatYa.map bval).toArray 5 (28, 29))) (.slice (some ⟨w1.heap.size, 0, none⟩) 28 28) (whatYa.map bval)) := Lib.hid (Row1.made_mark w1 _ _ _ _ _ _ rfl rfl rfl (by unfold maxLen; omega))
  have HS2 : Hid ((w1.alloc (.cells (whatYa.map bval).toArray 5 (28, 29))).heap.size = w1.heap.size + 1) := Lib.hid (by simp)
  generalize w1.alloc (.cells (whatYa.map bval).toArray 5 (28, 29)) = w2 at *
  rw [← HS2.out]
  have HE3 := Lib.hid (HE1.out.trans HE2.out)
  refine (MacSum_one _ _ jefe whatYa w2 (HR1.out.below HE2.out) HR2.out (by decide) (by decide) (HG.out.ext HE3.out)).mono ?_
  rintro e w4 ⟨rfl, hb⟩
  have HE4 := Lib.hid (HE3.out.trans hb)
  clear hb HR1 HR2 HE1 HE2 HE3 HS1 HS2
  have HAH := Lib.hid alive_hexM
  have HL := Lib.hid (hmac_length jefe whatYa)
  generalize hmac jefe whatYa = o at *
  have HZ := Lib.hid (Blk.made w4 (ints .u8 (List.replicate 32 0)) 27)
  have HS2 := Lib.hid HE4.out.size
  have HE4 := Lib.hid (HE4.out.trans (Ext.alloc w4 (.cells (ints .u8 (List.replicate 32 0)).toArray 27)))
  have HIo : Hid ((Tryd.prog.info? 27).map (·.size) = some (o.map bval).length) := Lib.hid (num_size HL.out)
  have HLo : Hid ((o.map bval).length = (ints .u8 (List.replicate 32 0)).length) := Lib.hid (by rw [List.length_map, HL.out, ints_length, List.length_replicate])
  go_wp2_with (refine wpList_store_blk rfl _ _ _ rfl w4.heap.size (o.map bval) rfl rfl _ _ HZ.out HLo.out HIo.out (bval_one _) ?_; intro w7 hb7 hg7)
  have HE5 := Lib.hid (ext_grown HE4.out hg7 HS2.out)
  have HR5 := Lib.hid (blk_row (n := 32) hb7 (by rw [List.length_map, HL.out]) (by unfold maxLen; omega))
  clear hb7 hg7 HZ HE4
  refine (hex_any _ o _ HR5.out (by rw [HL.out]; omega)).mono ?_
  rintro e w8 ⟨rfl, hb⟩
  have HE6 := Lib.hid (HE5.out.trans hb)
  clear hb HR5
  rw [HAH.out]
  go_wp2_with fail
  go_ret
  exact ⟨rfl, HE6.out⟩

end Go.Proofs.YtoojcicbeclnhaaDoor

/- The walk of MacMade. Each theorem names its own conditions. -/
namespace Go.Proofs.YtoojcicbeclnhaaDoor
open Go.RowKit
set_option linter.unusedVariables false
set_option linter.unusedSimpArgs false

set_option maxRecDepth 100000 in
set_option maxHeartbeats 8000000 in
theorem macMade_any (kv bv : Value) (k m : List UInt8) (w : World) (hk : Row1 w kv (k.map bval)) (hm : Row1 w bv (m.map bval)) (hG : GlobR w) :
    Calls Tryd.prog 6 #[kv, bv] w fun e w' => e = .returned (.bool true) ∧ Below w.heap.size w w' := by
  obtain ⟨iq, hq0, hq1, hq2⟩ := info_two Tryd.info22
  have HQ0 := Lib.hid hq0
  have HQ1 := Lib.hid hq1
  have HQ2 := Lib.hid hq2
  obtain ⟨i0, hi, hz0, hz1, hz2⟩ := info_parts Tryd.info5
  have HI0 := Lib.hid hi
  have HZ0 := Lib.hid hz0
  have HZ1 := Lib.hid hz1
  have HZ2 := Lib.hid hz2
  have HG := Lib.hid hG
  have HKR := Lib.hid hk
  have HMR := Lib.hid hm
  obtain ⟨a, cap, rfl, r1, r2, r3, r4⟩ := id hk
  obtain ⟨a2, cap2, hbv, q1, q2, q3, q4⟩ := id hm
  rw [List.length_map] at r1 HKR hbv ⊢
  unfold maxLen at r2
  clear hG hk hm r3 r4 q1 q2 q3 q4 hi hz0 hz1 hz2 hq0 hq1 hq2
  have HBV := Lib.hid hbv
  clear hbv
  go_enter Tryd.func6, Tryd.ntmps6
  go_wp2_with fail
  refine (alive_anyM w HG.out).mono ?_
  rintro e w1 ⟨rfl, hb⟩
  have HE : Hid (Ext w w1) := Lib.hid hb
  clear hb
  have hbv := HBV.out
  subst hbv
  by_cases h1 : 64 < k.length
  · have h1' : (64 : Int) < (k.length : Int) := by omega
    go_wp2_with fail
    go_ret
    exact ⟨rfl, HE.out⟩
  · by_cases h2 : 1000 < m.length
    · have h1' : decide ((64 : Int) < (k.length : Int)) = false := decide_eq_false (by omega)
      have h2' : (1000 : Int) < (m.length : Int) := by omega
      go_wp2_with fail
      go_ret
      exact ⟨rfl, HE.out⟩
    · have h1' : decide ((64 : Int) < (k.length : Int)) = false := decide_eq_false (by omega)
      have h2' : decide ((1000 : Int) < (m.length : Int)) = false := decide_eq_false (by omega)
      have hk64 : k.length ≤ 64 := by omega
      have HM1000 : Hid (m.length ≤ 1000) := Lib.hid (by omega)
      have hpl := hPad_length hk64
      have hsp := splice_zeros 64 k
      have hmac : hmac k m = sha256 (xTo (hPad k) 0x5c 64 ++ sha256 (xTo (hPad k) 0x36 64 ++ m)) := by
        rw [xTo_full 0x36 hpl, xTo_full 0x5c hpl]
        unfold hmac hXor
        rw [hKey_small hk64]
      have hpp : k ++ List.replicate (64 - k.length) 0 = hPad k := rfl
      rw [hpp] at hsp
      have HMAC := Lib.hid hmac
      clear hmac hpp
      generalize hPad k = p at *
      have HSP := Lib.hid hsp
      have HPL := Lib.hid hpl
      have HQL := Lib.hid hk64
      have hmk := run_make_zeros w1 22 5 Tryd.underlying22 i0 HI0.out HZ0.out HZ1.out HZ2.out 64 (by omega)
      have hmk2 := run_make_zeros (w1.alloc (.cells ((zB 64).map bval).toArray 5)) 22 5 Tryd.underlying22 i0 HI0.out HZ0.out HZ1.out HZ2.out 64 (by omega)
      rw [show ((64 : Nat) : Int) = 64 from rfl] at hmk hmk2
      have HB2 := Lib.hid (boxes2 w1 ((zB 64).map bval) ((zB 64).map bval) 5 5)
      clear hsp hpl
      go_upto_region 6 with (fail)
      change Code.wp _ _ _ _ ((w1.alloc (.cells ((zB 64).map bval).toArray 5)).alloc (.cells ((zB 64).map bval).toArray 5))
      clear hmk hmk2
      generalize (w1.alloc (.cells ((zB 64).map bval).toArray 5)).alloc (.cells ((zB 64).map bval).toArray 5) = w2 at *
      obtain ⟨b1, b2, b3⟩ := HB2.out
      have HN : Hid ((k.map bval).length = Nat.min k.length 64) := Lib.hid (by rw [List.length_map]; exact (Nat.min_eq_left HQL.out).symm)
      have HF : Hid (0 + (k.map bval).length ≤ ((zB 64).map bval).length) := Lib.hid (by rw [List.length_map, List.length_map, zB_length]; have := HQL.out; omega)
      obtain ⟨I, hI⟩ : ∃ I, I = w1.heap.size := ⟨_, rfl⟩
      have HIW : Hid (w.heap.size ≤ I) := Lib.hid (by rw [hI]; exact HE.out.size)
      have HE2 := Lib.hid (HE.out.trans b3)
      have HSI := Lib.hid (row_src HKR.out k (by rw [List.take_length]) (Nat.le_refl _) HE2.out)
      rw [← hI] at b1 b2
      rw [← hI]
      have H1 : Hid (Blk w2 I ((zB 64).map bval) 5) := Lib.hid b1
      have H2 := Lib.hid b2
      clear b1 b2 b3 HB2 HE hI
      go_upto_region 7 with (refine wpList_copy_blk rfl (.tmp 26) (.tmp 27) 22 22 rfl 5 Tryd.underlying22 one_u8 (some ⟨I, 0, none⟩) a 64 64 k.length cap rfl rfl I 0 ((zB 64).map bval) 5 H1.out (k.map bval) HN.out (fun h => ⟨rfl, HSI.out h⟩) HF.out (bval_one _) ?_; intro w3 hc3 hg3)
      rw [HSP.out] at hc3
      have HE3 : Hid (Ext w w3) := Lib.hid (ext_grown HE2.out hg3 HIW.out)
      have H23 := Lib.hid (H2.out.grown hg3 (fun e => by have h := Option.some.inj e; omega))
      have HSI3 := Lib.hid (row_src HKR.out k (by rw [List.take_length]) (Nat.le_refl _) HE3.out)
      have H13 : Hid (Blk w3 I (p.map bval) 5) := Lib.hid hc3
      clear hc3 hg3 H1 H2 HE2 HSI
      simp only [Act.put, List.setIfInBounds_toArray, List.set_cons_zero, List.set_cons_succ]
      go_upto_region 8 with (refine wpList_copy_blk rfl (.tmp 29) (.tmp 30) 22 22 rfl 5 Tryd.underlying22 one_u8 (some ⟨I + 1, 0, none⟩) a 64 64 k.length cap rfl rfl (I + 1) 0 ((zB 64).map bval) 5 H23.out (k.map bval) HN.out (fun h => ⟨rfl, HSI3.out h⟩) HF.out (bval_one _) ?_; intro w4 hc4 hg4)
      simp only [Act.put, List.setIfInBounds_toArray, List.set_cons_zero, List.set_cons_succ]
      rw [HSP.out] at hc4
      have HE4 : Hid (Ext w w4) := Lib.hid (ext_grown HE3.out hg4 (by have := HIW.out; omega))
      have H14 := Lib.hid (H13.out.grown hg4 (fun e => by have h := Option.some.inj e; omega))
      have H24 : Hid (Blk w4 (I + 1) (p.map bval) 5) := Lib.hid hc4
      clear hc4 hg4 H13 H23 HE3 HSI3 HF HN HSP
      go_wp2_with fail
      go_loopw [8] (fun iv wr => ∃ (j : Nat), j ≤ 64 ∧ iv = .int .i64 (j : Int) ∧ Blk wr I ((xTo p 0x36 j).map bval) 5 ∧ Blk wr (I + 1) ((xTo p 0x5c j).map bval) 5 ∧ Ext w wr) (fun iv _ => 64 - (intOf iv).toNat)
      case atStart => exact ⟨0, by omega, rfl, by rw [xTo_zero]; exact H14.out, by rw [xTo_zero]; exact H24.out, HE4.out⟩
      case round =>
        clear H14 H24 HE4
        obtain ⟨j, hj, rfl, hb1, hb2, hbel⟩ := hrel
        have k0 : (0 : Int) ≤ (j : Int) := Int.natCast_nonneg _
        by_cases hlj : j < 64
        · have k1 : (j : Int) < 64 := by omega
          have hjp : j < p.length := by rw [HPL.out]; exact hlj
          have c1 := hb1.cell j
          rw [bval_get (by rw [xTo_length]; exact hjp), xTo_getD p _ j hjp] at c1
          have c2 := hb2.cell j
          rw [bval_get (by rw [xTo_length]; exact hjp), xTo_getD p _ j hjp] at c2
          have f1 := hb1.free j
          have f2 := hb2.free j
          have x1 := xor_u8 (p.getD j 0) 0x36
          have x2 := xor_u8 (p.getD j 0) 0x5c
          rw [show (((0x36 : UInt8).toNat : Nat) : Int) = 54 from rfl] at x1
          rw [show (((0x5c : UInt8).toNat : Nat) : Int) = 92 from rfl] at x2
          have HX1 := Lib.hid (xTo_set p 0x36 j hjp)
          have HX2 := Lib.hid (xTo_set p 0x5c j hjp)
          have B1 := Lib.hid hb1
          have B2 := Lib.hid hb2
          have HE := Lib.hid hbel
          generalize hy1 : p.getD j 0 ^^^ 0x36 = y1 at *
          generalize hy2 : p.getD j 0 ^^^ 0x5c = y2 at *
          clear hb1 hb2 hbel hy1 hy2
          obtain ⟨y, hy⟩ : ∃ y, y = p.getD j 0 := ⟨_, rfl⟩
          rw [← hy] at x1 x2 c1 c2
          have HY := Lib.hid hy
          clear hy
          go_upto_region 12 with (fail)
          change Code.wp _ _ _ _ (wr.setCell ⟨I, j, none⟩ (bval y1))
          have B1 : Hid (Blk (wr.setCell ⟨I, j, none⟩ (bval y1)) I ((xTo p 0x36 (j + 1)).map bval) 5) := Lib.hid (by rw [← HX1.out, List.map_set]; exact B1.out.set j _)
          have B2 := Lib.hid (B2.out.far (a := ⟨I, j, none⟩) (by simp) (bval y1))
          have HE : Hid (Ext w (wr.setCell ⟨I, j, none⟩ (bval y1))) := Lib.hid (Below.setCell HE.out (by have := HIW.out; simp; omega) _)
          generalize wr.setCell ⟨I, j, none⟩ (bval y1) = ws at *
          have c2 := B2.out.cell j
          rw [bval_get (by rw [xTo_length]; exact hjp), xTo_getD p _ j hjp, ← HY.out] at c2
          have f2 := B2.out.free j
          go_wp2_with fail
          go_roundw
          case rel =>
            refine ⟨j + 1, by omega, by go_num, B1.out.far (by simp) _, ?_, Below.setCell HE.out (by have := HIW.out; simp; omega) _⟩
            rw [← HX2.out, List.map_set]
            exact B2.out.set j _
          case measure => simp [intOf]; omega
        · have hj64 : j = 64 := by omega
          subst hj64
          have HX1L : Hid (((xTo p 0x36 64).map bval).length = 64) := Lib.hid (by rw [List.length_map, xTo_length]; exact HPL.out)
          have HX2L : Hid (((xTo p 0x5c 64).map bval).length = 64) := Lib.hid (by rw [List.length_map, xTo_length]; exact HPL.out)
          have HR1 := Lib.hid (blk_row (n := 64) hb1 HX1L.out (by unfold maxLen; omega))
          have HB2 := Lib.hid hb2
          have HE := Lib.hid hbel
          have HMR1 := Lib.hid (HMR.out.below hbel)
          clear hb1 hb2 hbel
          have HEA := Lib.hid (Ext.alloc wr (.cells #[.slice (some ⟨I, 0, none⟩) 64 64, .slice a2 m.length cap2] 22))
          have HRS : Hid (RowB (wr.alloc (.cells #[.slice (some ⟨I, 0, none⟩) 64 64, .slice a2 m.length cap2] 22)) (.slice (some ⟨wr.heap.size, 0, none⟩) 2 2) [xTo p 0x36 64, m]) := Lib.hid (rowB2 (Row1.made wr _ _ _ _ _ rfl rfl rfl (by unfold maxLen; omega)) (HR1.out.below HEA.out) (HMR1.out.below HEA.out))
          go_wp2_with fail
          refine (Sum_val _ _ (xTo p 0x36 64 ++ m) _ HRS.out (by simp) (by rw [List.length_append]; have h1 := HX1L.out; rw [List.length_map] at h1; have := HM1000.out; omega) (HG.out.ext (HE.out.trans HEA.out))).mono ?_
          rintro e w7 ⟨rfl, hb⟩
          have HE7 := Lib.hid (HEA.out.trans hb)
          clear hb HEA HRS HMR1 HR1
          have HZ := Lib.hid (Blk.made w7 (ints .u8 (List.replicate 32 0)) 27)
          have HEB := Lib.hid (Ext.alloc w7 (.cells (ints .u8 (List.replicate 32 0)).toArray 27))
          have HI9 : Hid ((Tryd.prog.info? 27).map (·.size) = some ((sha256 (xTo p 0x36 64 ++ m)).map bval).length) := Lib.hid (num_size (sha256_length _))
          have HLo : Hid (((sha256 (xTo p 0x36 64 ++ m)).map bval).length = (ints .u8 (List.replicate 32 0)).length) := Lib.hid (by rw [List.length_map, sha256_length, ints_length, List.length_replicate])
          go_upto_region 14 with (refine wpList_store_blk rfl _ _ _ rfl w7.heap.size ((sha256 (xTo p 0x36 64 ++ m)).map bval) rfl rfl _ _ HZ.out HLo.out HI9.out (bval_one _) ?_; intro w9 hb9 hg9)
          have HE9 := Lib.hid (HE7.out.trans (ext_grown HEB.out hg9 (Nat.le_refl _)))
          have HB9 := Lib.hid hb9
          have HY9 := Lib.hid (blk_row (n := 64) (HB2.out.same (HE9.out.block _ HB2.out.lt)) HX2L.out (by unfold maxLen; omega))
          have HE := Lib.hid (HE.out.trans HE9.out)
          have HKR9 := Lib.hid (HKR.out.below HE.out)
          have HMR9 := Lib.hid (HMR.out.below HE.out)
          obtain ⟨B9, hB9⟩ : ∃ B9, B9 = w7.heap.size := ⟨_, rfl⟩
          rw [← hB9] at HB9 ⊢
          clear hb9 hg9 HZ HEB HLo HE7 HE9 HB2 hB9
          have B0 : Ext w9 w9.drew := Ext.drew _
          refine wp_region_held_drew (S := fun w' => Ext w9 w') (by kernel_rfl) B0 (fun hHeld => ?_)
          refine wpAnyH_take (i := 0) (v := .slice a k.length cap) rfl (by kernel_rfl) (by kernel_rfl) (by kernel_rfl) (fun _ _ _ h => h) (yi_move _ (.slice a k.length cap) (by rfl) rfl rfl) hHeld ?_
          simp only [Act.put, List.getElem_toArray, List.getElem_cons_zero, List.getElem_cons_succ, List.setIfInBounds_toArray, List.set_cons_zero, List.set_cons_succ]
          refine wpAnyH_take (i := 1) (v := .slice a2 m.length cap2) rfl (by kernel_rfl) (by kernel_rfl) (by kernel_rfl) (fun _ _ _ h => h) (yi_move _ (.slice a2 m.length cap2) (by rfl) rfl rfl) hHeld ?_
          simp only [Act.put, List.getElem_toArray, List.getElem_cons_zero, List.getElem_cons_succ, List.setIfInBounds_toArray, List.set_cons_zero, List.set_cons_succ]
          refine wpAnyH_take (i := 4) (v := .slice (some ⟨I + 1, 0, none⟩) 64 64) rfl (by kernel_rfl) (by kernel_rfl) (by kernel_rfl) (fun _ _ _ h => h) (yi_move _ (.slice (some ⟨I + 1, 0, none⟩) 64 64) (by rfl) rfl rfl) hHeld ?_
          simp only [Act.put, List.getElem_toArray, List.getElem_cons_zero, List.getElem_cons_succ, List.setIfInBounds_toArray, List.set_cons_zero, List.set_cons_succ]
          refine wpAnyH_take (i := 5) (v := .slice (some ⟨B9, 0, none⟩) 32 32) rfl (by kernel_rfl) (by kernel_rfl) (by kernel_rfl) (fun _ _ _ h => h) (yi_slice _ _ _ _ (.pointer (some ⟨B9, 0, none⟩)) (.slice (some ⟨B9, 0, none⟩) 32 32) none none (by rfl) rfl rfl rfl rfl (fun w => cut_whole Tryd.underlying27 Tryd.sizeOf5 (by omega) _ w)) hHeld ?_
          simp only [Act.put, List.getElem_toArray, List.getElem_cons_zero, List.getElem_cons_succ, List.setIfInBounds_toArray, List.set_cons_zero, List.set_cons_succ]
          refine wpAnyH_ready (rs := [2, 6]) (by kernel_rfl) (by simp) (AllReadyH.cons rfl (fun K hK => ?_) (AllReadyH.cons rfl (fun K hK => ?_) AllReadyH.nil))
          · refine step_wp (by rfl) ?_
            refine wp_buildSlice_d (some 58) _ _ _ _ rfl rfl #[.slice a2 m.length cap2] iq (.slice none 0 0) Tryd.underlying23 HQ0.out HQ1.out (by rw [HQ2.out]; decide) (by rw [HQ2.out]; decide) (by rw [HQ2.out]; kernel_rfl) ?_
            obtain ⟨m1, hm1⟩ : ∃ wNew, wNew = World.alloc w9.drew (.cells #[.slice a2 m.length cap2] 22) := ⟨_, rfl⟩
            rw [← hm1]
            have b1 : Ext w9.drew m1 := by rw [hm1]; exact Ext.alloc _ _
            obtain ⟨g1, hg1⟩ : ∃ gNew, gNew = (w9.drew).heap.size := ⟨_, rfl⟩
            rw [← hg1]
            have r1 : Row1 m1 (.slice (some ⟨g1, 0, none⟩) 1 1) [.slice a2 m.length cap2] := by rw [hm1, hg1]; exact Row1.made _ _ _ _ _ _ rfl rfl rfl (by unfold maxLen; omega)
            clear hm1 hg1
            have N1 : Ext w9 m1 := B0.trans b1
            refine hK.out _ _ N1 (fun hHeld => ?_)
            clear hK K
            try simp only [Act.put, List.getElem_toArray, List.getElem_cons_zero, List.getElem_cons_succ, List.setIfInBounds_toArray, List.set_cons_zero, List.set_cons_succ]
            refine wpAnyH_ready (rs := [3, 6]) (by kernel_rfl) (by simp) (AllReadyH.cons rfl (fun K hK => ?_) (AllReadyH.cons rfl (fun K hK => ?_) AllReadyH.nil))
            · go_simp
              refine (MacSum_val _ _ (k) _ (m) _ ((HKR9.out).below N1) (rowB1 r1 ((HMR9.out).below N1)) (by simp) (by omega) (by omega) (HG.out.ext (HE.out.trans N1))).mono ?_
              rintro e m2 ⟨rfl, b2⟩
              have r1 := r1.below b2
              have N2 : Ext w9 m2 := N1.trans b2
              refine hK.out _ _ N2 (fun hHeld => ?_)
              clear hK K
              try simp only [Act.put, List.getElem_toArray, List.getElem_cons_zero, List.getElem_cons_succ, List.setIfInBounds_toArray, List.set_cons_zero, List.set_cons_succ]
              refine wpAnyH_ready (rs := [6]) (by kernel_rfl) (by simp) (AllReadyH.cons rfl (fun K hK => ?_) AllReadyH.nil)
              refine step_wp (by rfl) ?_
              refine wp_buildSlice_d (some 62) _ _ _ _ rfl rfl #[.slice (some ⟨I + 1, 0, none⟩) 64 64, .slice (some ⟨B9, 0, none⟩) 32 32] iq (.slice none 0 0) Tryd.underlying23 HQ0.out HQ1.out (by rw [HQ2.out]; decide) (by rw [HQ2.out]; decide) (by rw [HQ2.out]; kernel_rfl) ?_
              obtain ⟨m3, hm3⟩ : ∃ wNew, wNew = World.alloc m2 (.cells #[.slice (some ⟨I + 1, 0, none⟩) 64 64, .slice (some ⟨B9, 0, none⟩) 32 32] 22) := ⟨_, rfl⟩
              rw [← hm3]
              have b3 : Ext m2 m3 := by rw [hm3]; exact Ext.alloc _ _
              obtain ⟨g3, hg3⟩ : ∃ gNew, gNew = (m2).heap.size := ⟨_, rfl⟩
              rw [← hg3]
              have r1 := r1.below b3
              have r3 : Row1 m3 (.slice (some ⟨g3, 0, none⟩) 2 2) [.slice (some ⟨I + 1, 0, none⟩) 64 64, .slice (some ⟨B9, 0, none⟩) 32 32] := by rw [hm3, hg3]; exact Row1.made _ _ _ _ _ _ rfl rfl rfl (by unfold maxLen; omega)
              clear hm3 hg3
              have N3 : Ext w9 m3 := N2.trans b3
              refine hK.out _ _ N3 (fun hHeld => ?_)
              clear hK K
              try simp only [Act.put, List.getElem_toArray, List.getElem_cons_zero, List.getElem_cons_succ, List.setIfInBounds_toArray, List.set_cons_zero, List.set_cons_succ]
              refine wpAnyH_ready (rs := [7]) (by kernel_rfl) (by simp) (AllReadyH.cons rfl (fun K hK => ?_) AllReadyH.nil)
              go_simp
              refine (Sum_val _ _ (xTo p 0x5c 64 ++ sha256 (xTo p 0x36 64 ++ m)) _ (rowB2 r3 ((HY9.out).below N3) ((blk_row (n := 32) HB9.out (by rw [List.length_map]; exact sha256_length _) (by unfold maxLen; omega)).below N3)) (by simp) (by rw [List.length_append, sha256_length]; have := HX2L.out; rw [List.length_map] at this; omega) (HG.out.ext (HE.out.trans N3))).mono ?_
              rintro e m4 ⟨rfl, b4⟩
              have r1 := r1.below b4
              have r3 := r3.below b4
              have N4 : Ext w9 m4 := N3.trans b4
              refine hK.out _ _ N4 (fun hHeld => ?_)
              clear hK K
              try simp only [Act.put, List.getElem_toArray, List.getElem_cons_zero, List.getElem_cons_succ, List.setIfInBounds_toArray, List.set_cons_zero, List.set_cons_succ]
              refine wpAnyH_take (i := 8) (v := .bool true) rfl (by kernel_rfl) (by kernel_rfl) (by kernel_rfl) (fun _ _ _ h => h) (yi_eql _ _ _ _ _ 32 _ (hmac (k) (m)) (sha256 (xTo p 0x5c 64 ++ sha256 (xTo p 0x36 64 ++ m))) true (by rfl) rfl (decide_eq_true (HMAC.out)) Tryd.underlying27 Tryd.underlying5 num_info num_cells num_guard rfl rfl (hmac_length _ _) (sha256_length _)) hHeld ?_
              simp only [Act.put, List.getElem_toArray, List.getElem_cons_zero, List.getElem_cons_succ, List.setIfInBounds_toArray, List.set_cons_zero, List.set_cons_succ]
              refine wpAnyH_ready (rs := [9]) (by kernel_rfl) (by simp) (AllReadyH.cons rfl (fun K hK => ?_) AllReadyH.nil)
              go_simp
              refine hK.out _ _ N4 (fun hHeld => ?_)
              clear hK K
              try simp only [Act.put, List.getElem_toArray, List.getElem_cons_zero, List.getElem_cons_succ, List.setIfInBounds_toArray, List.set_cons_zero, List.set_cons_succ]
              refine wpAnyH_done (by kernel_rfl) ?_ _
              go_wp2_with fail
              go_ret
              exact ⟨rfl, HE.out.trans N4⟩
            · refine step_wp (by rfl) ?_
              refine wp_buildSlice_d (some 62) _ _ _ _ rfl rfl #[.slice (some ⟨I + 1, 0, none⟩) 64 64, .slice (some ⟨B9, 0, none⟩) 32 32] iq (.slice none 0 0) Tryd.underlying23 HQ0.out HQ1.out (by rw [HQ2.out]; decide) (by rw [HQ2.out]; decide) (by rw [HQ2.out]; kernel_rfl) ?_
              obtain ⟨m2, hm2⟩ : ∃ wNew, wNew = World.alloc m1 (.cells #[.slice (some ⟨I + 1, 0, none⟩) 64 64, .slice (some ⟨B9, 0, none⟩) 32 32] 22) := ⟨_, rfl⟩
              rw [← hm2]
              have b2 : Ext m1 m2 := by rw [hm2]; exact Ext.alloc _ _
              obtain ⟨g2, hg2⟩ : ∃ gNew, gNew = (m1).heap.size := ⟨_, rfl⟩
              rw [← hg2]
              have r1 := r1.below b2
              have r2 : Row1 m2 (.slice (some ⟨g2, 0, none⟩) 2 2) [.slice (some ⟨I + 1, 0, none⟩) 64 64, .slice (some ⟨B9, 0, none⟩) 32 32] := by rw [hm2, hg2]; exact Row1.made _ _ _ _ _ _ rfl rfl rfl (by unfold maxLen; omega)
              clear hm2 hg2
              have N2 : Ext w9 m2 := N1.trans b2
              refine hK.out _ _ N2 (fun hHeld => ?_)
              clear hK K
              try simp only [Act.put, List.getElem_toArray, List.getElem_cons_zero, List.getElem_cons_succ, List.setIfInBounds_toArray, List.set_cons_zero, List.set_cons_succ]
              refine wpAnyH_ready (rs := [3]) (by kernel_rfl) (by simp) (AllReadyH.cons rfl (fun K hK => ?_) AllReadyH.nil)
              go_simp
              refine (MacSum_val _ _ (k) _ (m) _ ((HKR9.out).below N2) (rowB1 r1 ((HMR9.out).below N2)) (by simp) (by omega) (by omega) (HG.out.ext (HE.out.trans N2))).mono ?_
              rintro e m3 ⟨rfl, b3⟩
              have r1 := r1.below b3
              have r2 := r2.below b3
              have N3 : Ext w9 m3 := N2.trans b3
              refine hK.out _ _ N3 (fun hHeld => ?_)
              clear hK K
              try simp only [Act.put, List.getElem_toArray, List.getElem_cons_zero, List.getElem_cons_succ, List.setIfInBounds_toArray, List.set_cons_zero, List.set_cons_succ]
              refine wpAnyH_ready (rs := [7]) (by kernel_rfl) (by simp) (AllReadyH.cons rfl (fun K hK => ?_) AllReadyH.nil)
              go_simp
              refine (Sum_val _ _ (xTo p 0x5c 64 ++ sha256 (xTo p 0x36 64 ++ m)) _ (rowB2 r2 ((HY9.out).below N3) ((blk_row (n := 32) HB9.out (by rw [List.length_map]; exact sha256_length _) (by unfold maxLen; omega)).below N3)) (by simp) (by rw [List.length_append, sha256_length]; have := HX2L.out; rw [List.length_map] at this; omega) (HG.out.ext (HE.out.trans N3))).mono ?_
              rintro e m4 ⟨rfl, b4⟩
              have r1 := r1.below b4
              have r2 := r2.below b4
              have N4 : Ext w9 m4 := N3.trans b4
              refine hK.out _ _ N4 (fun hHeld => ?_)
              clear hK K
              try simp only [Act.put, List.getElem_toArray, List.getElem_cons_zero, List.getElem_cons_succ, List.setIfInBounds_toArray, List.set_cons_zero, List.set_cons_succ]
              refine wpAnyH_take (i := 8) (v := .bool true) rfl (by kernel_rfl) (by kernel_rfl) (by kernel_rfl) (fun _ _ _ h => h) (yi_eql _ _ _ _ _ 32 _ (hmac (k) (m)) (sha256 (xTo p 0x5c 64 ++ sha256 (xTo p 0x36 64 ++ m))) true (by rfl) rfl (decide_eq_true (HMAC.out)) Tryd.underlying27 Tryd.underlying5 num_info num_cells num_guard rfl rfl (hmac_length _ _) (sha256_length _)) hHeld ?_
              simp only [Act.put, List.getElem_toArray, List.getElem_cons_zero, List.getElem_cons_succ, List.setIfInBounds_toArray, List.set_cons_zero, List.set_cons_succ]
              refine wpAnyH_ready (rs := [9]) (by kernel_rfl) (by simp) (AllReadyH.cons rfl (fun K hK => ?_) AllReadyH.nil)
              go_simp
              refine hK.out _ _ N4 (fun hHeld => ?_)
              clear hK K
              try simp only [Act.put, List.getElem_toArray, List.getElem_cons_zero, List.getElem_cons_succ, List.setIfInBounds_toArray, List.set_cons_zero, List.set_cons_succ]
              refine wpAnyH_done (by kernel_rfl) ?_ _
              go_wp2_with fail
              go_ret
              exact ⟨rfl, HE.out.trans N4⟩
          · refine step_wp (by rfl) ?_
            refine wp_buildSlice_d (some 62) _ _ _ _ rfl rfl #[.slice (some ⟨I + 1, 0, none⟩) 64 64, .slice (some ⟨B9, 0, none⟩) 32 32] iq (.slice none 0 0) Tryd.underlying23 HQ0.out HQ1.out (by rw [HQ2.out]; decide) (by rw [HQ2.out]; decide) (by rw [HQ2.out]; kernel_rfl) ?_
            obtain ⟨m1, hm1⟩ : ∃ wNew, wNew = World.alloc w9.drew (.cells #[.slice (some ⟨I + 1, 0, none⟩) 64 64, .slice (some ⟨B9, 0, none⟩) 32 32] 22) := ⟨_, rfl⟩
            rw [← hm1]
            have b1 : Ext w9.drew m1 := by rw [hm1]; exact Ext.alloc _ _
            obtain ⟨g1, hg1⟩ : ∃ gNew, gNew = (w9.drew).heap.size := ⟨_, rfl⟩
            rw [← hg1]
            have r1 : Row1 m1 (.slice (some ⟨g1, 0, none⟩) 2 2) [.slice (some ⟨I + 1, 0, none⟩) 64 64, .slice (some ⟨B9, 0, none⟩) 32 32] := by rw [hm1, hg1]; exact Row1.made _ _ _ _ _ _ rfl rfl rfl (by unfold maxLen; omega)
            clear hm1 hg1
            have N1 : Ext w9 m1 := B0.trans b1
            refine hK.out _ _ N1 (fun hHeld => ?_)
            clear hK K
            try simp only [Act.put, List.getElem_toArray, List.getElem_cons_zero, List.getElem_cons_succ, List.setIfInBounds_toArray, List.set_cons_zero, List.set_cons_succ]
            refine wpAnyH_ready (rs := [2]) (by kernel_rfl) (by simp) (AllReadyH.cons rfl (fun K hK => ?_) AllReadyH.nil)
            refine step_wp (by rfl) ?_
            refine wp_buildSlice_d (some 58) _ _ _ _ rfl rfl #[.slice a2 m.length cap2] iq (.slice none 0 0) Tryd.underlying23 HQ0.out HQ1.out (by rw [HQ2.out]; decide) (by rw [HQ2.out]; decide) (by rw [HQ2.out]; kernel_rfl) ?_
            obtain ⟨m2, hm2⟩ : ∃ wNew, wNew = World.alloc m1 (.cells #[.slice a2 m.length cap2] 22) := ⟨_, rfl⟩
            rw [← hm2]
            have b2 : Ext m1 m2 := by rw [hm2]; exact Ext.alloc _ _
            obtain ⟨g2, hg2⟩ : ∃ gNew, gNew = (m1).heap.size := ⟨_, rfl⟩
            rw [← hg2]
            have r1 := r1.below b2
            have r2 : Row1 m2 (.slice (some ⟨g2, 0, none⟩) 1 1) [.slice a2 m.length cap2] := by rw [hm2, hg2]; exact Row1.made _ _ _ _ _ _ rfl rfl rfl (by unfold maxLen; omega)
            clear hm2 hg2
            have N2 : Ext w9 m2 := N1.trans b2
            refine hK.out _ _ N2 (fun hHeld => ?_)
            clear hK K
            try simp only [Act.put, List.getElem_toArray, List.getElem_cons_zero, List.getElem_cons_succ, List.setIfInBounds_toArray, List.set_cons_zero, List.set_cons_succ]
            refine wpAnyH_ready (rs := [3]) (by kernel_rfl) (by simp) (AllReadyH.cons rfl (fun K hK => ?_) AllReadyH.nil)
            go_simp
            refine (MacSum_val _ _ (k) _ (m) _ ((HKR9.out).below N2) (rowB1 r2 ((HMR9.out).below N2)) (by simp) (by omega) (by omega) (HG.out.ext (HE.out.trans N2))).mono ?_
            rintro e m3 ⟨rfl, b3⟩
            have r1 := r1.below b3
            have r2 := r2.below b3
            have N3 : Ext w9 m3 := N2.trans b3
            refine hK.out _ _ N3 (fun hHeld => ?_)
            clear hK K
            try simp only [Act.put, List.getElem_toArray, List.getElem_cons_zero, List.getElem_cons_succ, List.setIfInBounds_toArray, List.set_cons_zero, List.set_cons_succ]
            refine wpAnyH_ready (rs := [7]) (by kernel_rfl) (by simp) (AllReadyH.cons rfl (fun K hK => ?_) AllReadyH.nil)
            go_simp
            refine (Sum_val _ _ (xTo p 0x5c 64 ++ sha256 (xTo p 0x36 64 ++ m)) _ (rowB2 r1 ((HY9.out).below N3) ((blk_row (n := 32) HB9.out (by rw [List.length_map]; exact sha256_length _) (by unfold maxLen; omega)).below N3)) (by simp) (by rw [List.length_append, sha256_length]; have := HX2L.out; rw [List.length_map] at this; omega) (HG.out.ext (HE.out.trans N3))).mono ?_
            rintro e m4 ⟨rfl, b4⟩
            have r1 := r1.below b4
            have r2 := r2.below b4
            have N4 : Ext w9 m4 := N3.trans b4
            refine hK.out _ _ N4 (fun hHeld => ?_)
            clear hK K
            try simp only [Act.put, List.getElem_toArray, List.getElem_cons_zero, List.getElem_cons_succ, List.setIfInBounds_toArray, List.set_cons_zero, List.set_cons_succ]
            refine wpAnyH_take (i := 8) (v := .bool true) rfl (by kernel_rfl) (by kernel_rfl) (by kernel_rfl) (fun _ _ _ h => h) (yi_eql _ _ _ _ _ 32 _ (hmac (k) (m)) (sha256 (xTo p 0x5c 64 ++ sha256 (xTo p 0x36 64 ++ m))) true (by rfl) rfl (decide_eq_true (HMAC.out)) Tryd.underlying27 Tryd.underlying5 num_info num_cells num_guard rfl rfl (hmac_length _ _) (sha256_length _)) hHeld ?_
            simp only [Act.put, List.getElem_toArray, List.getElem_cons_zero, List.getElem_cons_succ, List.setIfInBounds_toArray, List.set_cons_zero, List.set_cons_succ]
            refine wpAnyH_ready (rs := [9]) (by kernel_rfl) (by simp) (AllReadyH.cons rfl (fun K hK => ?_) AllReadyH.nil)
            go_simp
            refine hK.out _ _ N4 (fun hHeld => ?_)
            clear hK K
            try simp only [Act.put, List.getElem_toArray, List.getElem_cons_zero, List.getElem_cons_succ, List.setIfInBounds_toArray, List.set_cons_zero, List.set_cons_succ]
            refine wpAnyH_done (by kernel_rfl) ?_ _
            go_wp2_with fail
            go_ret
            exact ⟨rfl, HE.out.trans N4⟩

end Go.Proofs.YtoojcicbeclnhaaDoor
