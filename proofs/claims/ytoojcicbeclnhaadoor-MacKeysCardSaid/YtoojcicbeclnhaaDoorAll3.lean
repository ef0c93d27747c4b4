/- Texts that belong together, one behind the other; each says in its own first remark what it shows. -/
import Derived.Test.YtoojcicbeclnhaaDoorProg
import Derived.Test.YtoojcicbeclnhaaDoorAll1
import Derived.Test.YtoojcicbeclnhaaDoorAll2
import Derived.Lib.SlBytesConst

/- The walk of the document's own Hex. Each theorem names its own conditions. -/
namespace Go.Proofs.YtoojcicbeclnhaaDoor
open Go.RowKit
set_option linter.unusedVariables false
set_option linter.unusedSimpArgs false

def hexD (n : Nat) : UInt8 := [48, 49, 50, 51, 52, 53, 54, 55, 56, 57, 97, 98, 99, 100, 101, 102].getD n 0
def hexL (l : List UInt8) : List UInt8 := l.flatMap fun c => [hexD (c.toNat / 16), hexD (c.toNat % 16)]
theorem hexL_length : ∀ l : List UInt8, (hexL l).length = 2 * l.length
  | [] => rfl
  | c :: r => by
    have := hexL_length r
    simp only [hexL, List.flatMap_cons, List.length_append, List.length_cons, List.length_nil] at *
    omega
theorem hexL_snoc (l : List UInt8) (k : Nat) (hk : k < l.length) : hexL (l.take (k + 1)) = hexL (l.take k) ++ [hexD ((l.getD k 0).toNat / 16), hexD ((l.getD k 0).toNat % 16)] := by
  rw [List.take_succ_eq_append_getElem hk]
  unfold hexL
  rw [List.flatMap_append]
  simp [List.getD, hk]
theorem index_hex (n : Nat) (hn : n < 16) (w : World) :
    (Instr.index 9 (.string { data := #[48, 49, 50, 51, 52, 53, 54, 55, 56, 57, 97, 98, 99, 100, 101, 102] }) (.int .u8 (n : Int))).run Tryd.prog w = .ok (bval (hexD n)) w := by
  rcases (by omega : n = 0 ∨ n = 1 ∨ n = 2 ∨ n = 3 ∨ n = 4 ∨ n = 5 ∨ n = 6 ∨ n = 7 ∨ n = 8 ∨ n = 9 ∨ n = 10 ∨ n = 11 ∨ n = 12 ∨ n = 13 ∨ n = 14 ∨ n = 15) with rfl | rfl | rfl | rfl | rfl | rfl | rfl | rfl | rfl | rfl | rfl | rfl | rfl | rfl | rfl | rfl <;> kernel_rfl
theorem and_u8_15 (n : Nat) : bits .and .u8 (n : Int) 15 = ((n % 16 : Nat) : Int) := by
  have h : (BitVec.ofInt 8 15).toNat = 2 ^ 4 - 1 := by decide
  have key : (BitVec.ofInt 8 (n : Int) &&& BitVec.ofInt 8 15).toNat = ((n : Int) % ((2 ^ 8 : Nat) : Int)).toNat % 2 ^ 4 := by
    rw [BitVec.toNat_and, BitVec.toNat_ofInt, h, Nat.and_two_pow_sub_one_eq_mod]
  show IntKind.u8.wrap ((BitVec.ofInt 8 (n : Int) &&& BitVec.ofInt 8 15).toNat : Nat) = _
  rw [key, IntKind.wrap_u8]
  omega

set_option maxRecDepth 100000 in
set_option maxHeartbeats 4000000 in
theorem hex_any (v : Value) (l : List UInt8) (w : World) (hv : Row1 w v (l.map bval)) (hb : l.length ≤ 1099511627776) :
    Calls Tryd.prog 15 #[v] w fun e w' => e = .returned (.string ⟨(hexL l).toArray⟩) ∧ Below w.heap.size w w' := by
  obtain ⟨i0, hi, hz0, hz1, hz2⟩ := info_parts Tryd.info5
  obtain ⟨a, cap, rfl, r1, r2, r3, r4⟩ := id hv
  unfold maxLen at r2
  rw [List.length_map] at r1 ⊢
  have HI0 := Lib.hid hi
  have HZ0 := Lib.hid hz0
  have HZ1 := Lib.hid hz1
  have HZ2 := Lib.hid hz2
  have HC := Lib.hid r4
  have HB := Lib.hid hb
  have HNIL : Hid (w.ownsRow w.heap.size 5 1 (.slice none 0 0) 0 []) := Lib.hid (World.ownsRow_nil _ _ _ _)
  clear hv r3 r4 hb hi hz0 hz1 hz2
  go_enter Tryd.func15, Tryd.ntmps15
  go_wp2_with fail
  go_loopw [3, 4] (fun x iv wr => ∃ (k : Nat) (xv : Value), k ≤ l.length ∧ xv = x ∧ iv = .int .i64 (k : Int) ∧ wr.ownsRow w.heap.size 5 1 xv (hexL (l.take k)).length ((hexL (l.take k)).map bval) ∧ Ext w wr) (fun _ iv _ => l.length - (intOf iv).toNat)
  case atStart => exact ⟨0, _, by omega, rfl, rfl, HNIL.out, Ext.refl w⟩
  case round =>
    clear HNIL
    obtain ⟨k, xv, hk, rfl, rfl, ho, hE⟩ := hrel
    have k0 : (0 : Int) ≤ (k : Int) := Int.natCast_nonneg _
    have HO := Lib.hid ho
    have HE := Lib.hid hE
    have HS := Lib.hid hE.size
    clear ho hE
    by_cases hlk : k < l.length
    · have k1 : (k : Int) < (l.length : Int) := by omega
      obtain ⟨b', off, rfl, hbs, hcell⟩ := HC.out (by intro e; have h := congrArg List.length e; rw [List.length_map] at h; simp only [List.length_nil] at h; omega)
      have c0 : wr.cell? ⟨b', off + k, none⟩ = some (.int .u8 ((l.getD k 0).toNat : Int)) := by
        have h := hcell k (by rw [List.length_map]; exact hlk)
        rw [bval_get hlk] at h
        rw [← h]
        exact HE.out.cell (p := ⟨b', off + k, none⟩) hbs
      have HSN := Lib.hid (hexL_snoc l k hlk)
      have HLL : Hid ((hexL (l.take k)).length ≤ 2199023255552) := Lib.hid (by rw [hexL_length, List.length_take]; have := HB.out; omega)
      have hn := UInt8.toNat_lt (l.getD k 0)
      generalize (l.getD k 0).toNat = n at *
      have i1 := index_hex (n / 16) (by omega)
      have i2 := index_hex (n % 16) (by omega)
      have d1 : ((n / 16 : Nat) : Int) = (n : Int) / 16 := by omega
      have d2 : ((n % 16 : Nat) : Int) = (n : Int) % 16 := by omega
      have d3 := and_u8_15 n
      rw [d2] at d3 i2
      rw [d1] at i1
      generalize hexD (n / 16) = x1 at *
      generalize hexD (n % 16) = x2 at *
      clear d1 d2 hcell
      have hbw : b' < wr.heap.size := Nat.lt_of_lt_of_le hbs HE.out.size
      go_wp2_with fail
      refine wp_region_from 13 3 14 rfl (by kernel_rfl) (by kernel_rfl) (fun d v c a w h => by cases d <;> exact h) (by kernel_rfl) ?_
      refine det_move _ (xv) (by rfl) rfl rfl ?_
      simp only [Act.put, List.setIfInBounds_toArray, List.set_cons_zero, List.set_cons_succ]
      refine det_move _ (.slice (some ⟨b', off, none⟩) l.length cap) (by rfl) rfl rfl ?_
      simp only [Act.put, List.setIfInBounds_toArray, List.set_cons_zero, List.set_cons_succ]
      refine det_move _ (.int .i64 (k : Int)) (by rfl) rfl rfl ?_
      simp only [Act.put, List.setIfInBounds_toArray, List.set_cons_zero, List.set_cons_succ]
      refine det_sindex _ _ _ _ b' off l.length cap k (by rfl) rfl rfl rfl Tryd.underlying22 hlk Tryd.sizeOf5 ?_
      simp only [Act.put, List.setIfInBounds_toArray, List.set_cons_zero, List.set_cons_succ]
      refine det_cell _ _ b' (off + k) (.int .u8 (n : Int)) (by rfl) rfl rfl (fun w' hw => by rw [← c0]; exact hw.cell (p := ⟨b', off + k, none⟩) hbw) Tryd.isAgg5 ?_
      simp only [Act.put, List.setIfInBounds_toArray, List.set_cons_zero, List.set_cons_succ]
      refine det_val (.int .u8 ((n : Int) / 16)) (by rfl) (fun w hw => by go_simp) ?_
      simp only [Act.put, List.setIfInBounds_toArray, List.set_cons_zero, List.set_cons_succ]
      refine det_vindex _ _ _ _ _ (bval x1) (by rfl) rfl rfl rfl i1 ?_
      simp only [Act.put, List.setIfInBounds_toArray, List.set_cons_zero, List.set_cons_succ]
      refine det_move _ (.slice (some ⟨b', off, none⟩) l.length cap) (by rfl) rfl rfl ?_
      simp only [Act.put, List.setIfInBounds_toArray, List.set_cons_zero, List.set_cons_succ]
      refine det_move _ (.int .i64 (k : Int)) (by rfl) rfl rfl ?_
      simp only [Act.put, List.setIfInBounds_toArray, List.set_cons_zero, List.set_cons_succ]
      refine det_sindex _ _ _ _ b' off l.length cap k (by rfl) rfl rfl rfl Tryd.underlying22 hlk Tryd.sizeOf5 ?_
      simp only [Act.put, List.setIfInBounds_toArray, List.set_cons_zero, List.set_cons_succ]
      refine det_cell _ _ b' (off + k) (.int .u8 (n : Int)) (by rfl) rfl rfl (fun w' hw => by rw [← c0]; exact hw.cell (p := ⟨b', off + k, none⟩) hbw) Tryd.isAgg5 ?_
      simp only [Act.put, List.setIfInBounds_toArray, List.set_cons_zero, List.set_cons_succ]
      refine det_and _ _ _ _ _ _ _ ((n : Int) % 16) (by rfl) rfl rfl rfl d3 ?_
      simp only [Act.put, List.setIfInBounds_toArray, List.set_cons_zero, List.set_cons_succ]
      refine det_vindex _ _ _ _ _ (bval x2) (by rfl) rfl rfl rfl i2 ?_
      simp only [Act.put, List.setIfInBounds_toArray, List.set_cons_zero, List.set_cons_succ]
      refine det_nil ?_
      refine end_step (k := 13) (by rfl) (by decide +kernel) (by decide +kernel) rfl (fun w1 hw1 => ?_)
      refine wp_buildSlice_d (some 24) _ _ _ _ rfl rfl #[bval x1, bval x2] i0 (.int .u8 0) Tryd.underlying22 HI0.out HZ0.out (by rw [HZ1.out]; decide) (by rw [HZ1.out]; decide) (by rw [HZ1.out]; kernel_rfl) ?_
      refine ⟨Ext.alloc _ _, anyB_done (by decide +kernel) (fun w2 hw2 => ?_)⟩
      simp only [Act.put, List.setIfInBounds_toArray, List.set_cons_zero, List.set_cons_succ]
      have HE2 := Lib.hid ((HE.out.trans hw1).trans ((Ext.alloc w1 (.cells #[bval x1, bval x2] 5)).trans hw2))
      have HO2 := Lib.hid (own_below (own_below (own_below HO.out hw1) (Ext.alloc w1 (.cells #[bval x1, bval x2] 5))) hw2)
      have HR2 : Hid (Row1 w2 (.slice (some ⟨w1.heap.size, 0, none⟩) 2 2) ([x1, x2].map bval)) := Lib.hid ((Row1.made w1 #[bval x1, bval x2] 5 _ 2 _ rfl rfl rfl (by unfold maxLen; omega)).below hw2)
      refine any_one (k := 14) (by rfl) (by decide +kernel) rfl ?_
      refine wp_append_row_d (some 25) _ _ 22 rfl rfl w.heap.size 5 i0 (.int .u8 0) 1 Tryd.underlying22 HI0.out HZ0.out HZ1.out HZ2.out rfl _ _ _ rfl HO2.out rfl HR2.out (bval_one _) (by have := HLL.out; unfold maxLen; simp; omega) (by have := HLL.out; simp; omega) HE2.out.size ?_
      intro v3 w3 hown3 hgrow3
      simp only [Act.put, List.setIfInBounds_toArray, List.set_cons_zero, List.set_cons_succ]
      refine any_one (k := 15) (by rfl) (by decide +kernel) rfl ?_
      refine wp_assign_d (some 3) _ v3 rfl rfl rfl ?_
      refine any_nil (by decide +kernel) ?_
      simp only [Act.put, List.setIfInBounds_toArray, List.set_cons_zero, List.set_cons_succ]
      have HX3 := Lib.hid (ext_own HE2.out HO2.out (Nat.le_refl _) hgrow3)
      have HO3 := Lib.hid hown3
      clear hown3 hgrow3
      go_wp2_with fail
      go_roundw
      case rel =>
        refine ⟨k + 1, v3, by omega, rfl, by go_num, ?_, HX3.out⟩
        rw [HSN.out, List.map_append, List.length_append]
        exact HO3.out
      case measure => simp [intOf]; omega
    · have hk2 : (l.length : Int) ≤ (k : Int) := by omega
      have hke : k = l.length := by omega
      have hrw := Row1.of_own HO.out
      rw [hke, List.take_length] at hrw
      have hst := run_string_row 22 9 5 Tryd.underlying22 Tryd.underlying5 Tryd.underlying9 hrw
      clear hrw hke
      go_wp2_with fail
      go_ret
      exact ⟨rfl, HE.out⟩

end Go.Proofs.YtoojcicbeclnhaaDoor

/- The walk of what every law of chapter 7 begins with: alive. Each theorem names its own conditions. -/
namespace Go.Proofs.YtoojcicbeclnhaaDoor
open Go.RowKit
set_option linter.unusedVariables false
set_option linter.unusedSimpArgs false

def jefe : List UInt8 := [74, 101, 102, 101]
def whatYa : List UInt8 := [119, 104, 97, 116, 32, 100, 111, 32, 121, 97, 32, 119, 97, 110, 116, 32, 102, 111, 114, 32, 110, 111, 116, 104, 105, 110, 103, 63]
theorem alive_hexM : hexL (hmac jefe whatYa) = [53, 98, 100, 99, 99, 49, 52, 54, 98, 102, 54, 48, 55, 53, 52, 101, 54, 97, 48, 52, 50, 52, 50, 54, 48, 56, 57, 53, 55, 53, 99, 55, 53, 97, 48, 48, 51, 102, 48, 56, 57, 100, 50, 55, 51, 57, 56, 51, 57, 100, 101, 99, 53, 56, 98, 57, 54, 52, 101, 99, 51, 56, 52, 51] := by decide +kernel

set_option maxRecDepth 100000 in
set_option maxHeartbeats 4000000 in
theorem alive_anyM (w : World) (hG : GlobR w) : Calls Tryd.prog 7 #[] w fun e w' => e = .returned (.bool true) ∧ Below w.heap.size w w' := by
  have HG := Lib.hid hG
  clear hG
  have kc := fun (w : World) (C : Array Value) (n c : Nat) => Lib.run_convert_bytes_const (P := Tryd.prog) w 22 5 C n c Tryd.underlying22 Tryd.underlying5
  have kc2 := fun (w : World) (D C : Array Value) (fr : Nat × Nat) (n c : Nat) => kc (w.alloc (.cells D 5 fr)) C n c
  simp only [size_alloc_w] at kc2
  go_enter Tryd.func7, Tryd.ntmps7
  go_wp2_with fail
  have HE1 := Lib.hid (Ext.alloc w (.cells (jefe.map bval).toArray 5 (4, 5)))
  have HR1 : Hid (Row1 (w.alloc (.cells (jefe.map bval).toArray 5 (4, 5))) (.slice (some ⟨w.heap.size, 0, none⟩) 4 4) (jefe.map bval)) := Lib.hid (Row1.made_mark w _ _ _ _ _ _ rfl rfl rfl (by unfold maxLen; omega))
  have HS1 : Hid ((w.alloc (.cells (jefe.map bval).toArray 5 (4, 5))).heap.size = w.heap.size + 1) := Lib.hid (by simp)
  change Calls _ _ _ (((w.alloc (.cells (jefe.map bval).toArray 5 (4, 5))).alloc (.cells (whatYa.map bval).toArray 5 (28, 29))).alloc (.cells #[.slice (some ⟨w.heap.size + 1, 0, none⟩) 28 28] 22)) _
  generalize w.alloc (.cells (jefe.map bval).toArray 5 (4, 5)) = w1 at *
  rw [← HS1.out]
  have HE2 := Lib.hid (Ext.alloc w1 (.cells (whatYa.map bval).toArray 5 (28, 29)))
  have HR2 : Hid (Row1 (w1.alloc (.cells (whatYa.map bval).toArray 5 (28, 29))) (.slice (some ⟨w1.heap.size, 0, none⟩) 28 28) (whatYa.map bval)) := Lib.hid (Row1.made_mark w1 _ _ _ _ _ _ rfl rfl rfl (by unfold maxLen; omega))
  have HS2 : Hid ((w1.alloc (.cells (whatYa.map bval).toArray 5 (28, 29))).heap.size = w1.heap.size + 1) := Lib.hid (by simp)
  generalize w1.alloc (.cells (whatYa.map bval).toArray 5 (28, 29)) = w2 at *
  rw [← HS2.out]
  have HE3 := Lib.hid (HE1.out.trans HE2.out)
  refine (MacSum_one _ _ jefe whatYa w2 (HR1.out.below HE2.out) HR2.out (by decide) (by decide) (HG.out.ext HE3.out)).mono ?_
  rintro e w4 ⟨rfl, hb⟩
  have HE4 := Lib.hid (HE3.out.trans hb)
  clear hb HR1 HR2 HE1 HE2 HE3 HS1 HS2
  have HAH := Lib.hid alive_hexM
  have HL := Lib.hid (hmac_length jefe whatYa)
  generalize hmac jefe whatYa = o at *
  have HZ := Lib.hid (Blk.made w4 (ints .u8 (List.replicate 32 0)) 27)
  have HS2 := Lib.hid HE4.out.size
  have HE4 := Lib.hid (HE4.out.trans (Ext.alloc w4 (.cells (ints .u8 (List.replicate 32 0)).toArray 27)))
  have HIo : Hid ((Tryd.prog.info? 27).map (·.size) = some (o.map bval).length) := Lib.hid (num_size HL.out)
  have HLo : Hid ((o.map bval).length = (ints .u8 (List.replicate 32 0)).length) := Lib.hid (by rw [List.length_map, HL.out, ints_length, List.length_replicate])
  go_wp2_with (refine wpList_store_blk rfl _ _ _ rfl w4.heap.size (o.map bval) rfl rfl _ _ HZ.out HLo.out HIo.out (bval_one _) ?_; intro w7 hb7 hg7)
  have HE5 := Lib.hid (ext_grown HE4.out hg7 HS2.out)
  have HR5 := Lib.hid (blk_row (n := 32) hb7 (by rw [List.length_map, HL.out]) (by unfold maxLen; omega))
  clear hb7 hg7 HZ HE4
  refine (hex_any _ o _ HR5.out (by rw [HL.out]; omega)).mono ?_
  rintro e w8 ⟨rfl, hb⟩
  have HE6 := Lib.hid (HE5.out.trans hb)
  clear hb HR5
  rw [HAH.out]
  go_wp2_with fail
  go_ret
  exact ⟨rfl, HE6.out⟩

end Go.Proofs.YtoojcicbeclnhaaDoor

/- The walk of MacKeys. Each theorem names its own conditions. -/
namespace Go.Proofs.YtoojcicbeclnhaaDoor
open Go.RowKit
set_option linter.unusedVariables false
set_option linter.unusedSimpArgs false

set_option maxRecDepth 100000 in
set_option maxHeartbeats 8000000 in
theorem macKeys_any (kv bv : Value) (k m : List UInt8) (n : Int) (w : World) (hk : Row1 w kv (k.map bval)) (hm : Row1 w bv (m.map bval)) (hn1 : -9223372036854775808 ≤ n) (hn2 : n ≤ 9223372036854775807) (hG : GlobR w) (hK : GlobK w) :
    Calls Tryd.prog 4 #[kv, .int .i64 n, bv] w fun e w' => e = .returned (.bool true) ∧ Below w.heap.size w w' := by
  obtain ⟨iq, hq0, hq1, hq2⟩ := info_two Tryd.info22
  have HQ0 := Lib.hid hq0
  have HQ1 := Lib.hid hq1
  have HQ2 := Lib.hid hq2
  obtain ⟨i0, hi, hz0, hz1, hz2⟩ := info_parts Tryd.info5
  have HI0 := Lib.hid hi
  have HZ0 := Lib.hid hz0
  have HZ1 := Lib.hid hz1
  have HZ2 := Lib.hid hz2
  have HG := Lib.hid hG
  have HK := Lib.hid hK
  have HKR := Lib.hid hk
  have HMR := Lib.hid hm
  obtain ⟨a, cap, rfl, r1, r2, r3, r4⟩ := id hk
  obtain ⟨a2, cap2, hbv, q1, q2, q3, q4⟩ := id hm
  rw [List.length_map] at r1 HKR hbv ⊢
  unfold maxLen at r2
  clear hG hK hk hm r3 r4 q1 q2 q3 q4 hi hz0 hz1 hz2 hq0 hq1 hq2
  have HBV := Lib.hid hbv
  clear hbv
  go_enter Tryd.func4, Tryd.ntmps4
  go_wp2_with fail
  refine (alive_anyM w HG.out).mono ?_
  rintro e w1 ⟨rfl, hb⟩
  have HE : Hid (Ext w w1) := Lib.hid hb
  clear hb
  have hbv := HBV.out
  subst hbv
  by_cases h1 : 300 < k.length
  · have h1' : (300 : Int) < (k.length : Int) := by omega
    go_wp2_with fail
    go_ret
    exact ⟨rfl, HE.out⟩
  · by_cases h2 : 1000 < m.length
    · have h1' : decide ((300 : Int) < (k.length : Int)) = false := decide_eq_false (by omega)
      have h2' : (1000 : Int) < (m.length : Int) := by omega
      go_wp2_with fail
      go_ret
      exact ⟨rfl, HE.out⟩
    · by_cases h3 : n < 0
      · have h1' : decide ((300 : Int) < (k.length : Int)) = false := decide_eq_false (by omega)
        have h2' : decide ((1000 : Int) < (m.length : Int)) = false := decide_eq_false (by omega)
        go_wp2_with fail
        go_ret
        exact ⟨rfl, HE.out⟩
      · by_cases h4 : 64 < n
        · have h1' : decide ((300 : Int) < (k.length : Int)) = false := decide_eq_false (by omega)
          have h2' : decide ((1000 : Int) < (m.length : Int)) = false := decide_eq_false (by omega)
          have h3' : decide (n < 0) = false := decide_eq_false h3
          go_wp2_with fail
          go_ret
          exact ⟨rfl, HE.out⟩
        · obtain ⟨q, rfl⟩ : ∃ q : Nat, n = (q : Int) := ⟨n.toNat, by omega⟩
          have h1' : decide ((300 : Int) < (k.length : Int)) = false := decide_eq_false (by omega)
          have h2' : decide ((1000 : Int) < (m.length : Int)) = false := decide_eq_false (by omega)
          have h3' : decide ((q : Int) < 0) = false := decide_eq_false h3
          have h4' : decide ((64 : Int) < (q : Int)) = false := decide_eq_false h4
          have HM1 := Lib.hid (HMR.out.below HE.out)
          go_wp2_with fail
          refine (MacSum_one _ _ k m w1 (HKR.out.below HE.out) HM1.out (by omega) (by omega) (HG.out.ext HE.out)).mono ?_
          rintro e w4 ⟨rfl, hb⟩
          have HE1 : Hid (Ext w1 w4) := Lib.hid hb
          have HE := Lib.hid (HE.out.trans hb)
          clear hb
          have HZ := Lib.hid (Blk.made w4 (ints .u8 (List.replicate 32 0)) 27)
          have HS4 := Lib.hid HE.out.size
          have HEA := Lib.hid (Ext.alloc w4 (.cells (ints .u8 (List.replicate 32 0)).toArray 27))
          have HI8 : Hid ((Tryd.prog.info? 27).map (·.size) = some ((hmac k m).map bval).length) := Lib.hid (num_size (hmac_length _ _))
          have HLo : Hid (((hmac k m).map bval).length = (ints .u8 (List.replicate 32 0)).length) := Lib.hid (by rw [List.length_map, hmac_length, ints_length, List.length_replicate])
          go_upto_region 5 with (refine wpList_store_blk rfl _ _ _ rfl w4.heap.size ((hmac k m).map bval) rfl rfl _ _ HZ.out HLo.out HI8.out (bval_one _) ?_; intro w7 hb7 hg7)
          have HE4 := Lib.hid (ext_grown HEA.out hg7 (Nat.le_refl _))
          have HE := Lib.hid (HE.out.trans HE4.out)
          have HB8 := Lib.hid hb7
          have HM := Lib.hid (HM1.out.below (HE1.out.trans HE4.out))
          obtain ⟨B8, hB8⟩ : ∃ B8, B8 = w4.heap.size := ⟨_, rfl⟩
          rw [← hB8] at HB8 ⊢
          clear hb7 hg7 HZ HEA HLo HE1 HE4 HM1 HS4 hB8
          by_cases h64 : 64 < k.length
          · have hk64 := h64
            have h64' : (64 : Int) < (k.length : Int) := by omega
            go_wp2_with fail
            refine (rSha_any _ k w7 (HKR.out.below HE.out) (by omega) (HK.out.ext HE.out)).mono ?_
            rintro e w5 ⟨rfl, hb⟩
            have HE := Lib.hid (HE.out.trans hb)
            have HM := Lib.hid (HM.out.below hb)
            have HB8 := Lib.hid (HB8.out.same (hb.block _ HB8.out.lt))
            clear hb
            have HZ := Lib.hid (Blk.made w5 (ints .u8 (List.replicate 32 0)) 27)
            have HEA := Lib.hid (Ext.alloc w5 (.cells (ints .u8 (List.replicate 32 0)).toArray 27))
            have HI9 : Hid ((Tryd.prog.info? 27).map (·.size) = some ((sha256 k).map bval).length) := Lib.hid (num_size (sha256_length _))
            have HLo : Hid (((sha256 k).map bval).length = (ints .u8 (List.replicate 32 0)).length) := Lib.hid (by rw [List.length_map, sha256_length, ints_length, List.length_replicate])
            go_upto_region 7 with (refine wpList_store_blk rfl _ _ _ rfl w5.heap.size ((sha256 k).map bval) rfl rfl _ _ HZ.out HLo.out HI9.out (bval_one _) ?_; intro w9 hb9 hg9)
            have HE4 := Lib.hid (ext_grown HEA.out hg9 (Nat.le_refl _))
            have HE := Lib.hid (HE.out.trans HE4.out)
            have HM := Lib.hid (HM.out.below HE4.out)
            have HB8 := Lib.hid (HB8.out.same (HE4.out.block _ HB8.out.lt))
            have HB9 := Lib.hid hb9
            obtain ⟨B9, hB9⟩ : ∃ B9, B9 = w5.heap.size := ⟨_, rfl⟩
            rw [← hB9] at HB9 ⊢
            clear hb9 hg9 HZ HEA HLo HE4 hB9
            have B0 : Ext w9 w9.drew := Ext.drew _
            refine wp_region_held_drew (S := fun w' => Ext w9 w') (by kernel_rfl) B0 (fun hHeld => ?_)
            refine wpAnyH_take (i := 0) (v := .agg ((hmac k m).map bval).toArray) rfl (by kernel_rfl) (by kernel_rfl) (by kernel_rfl) (fun _ _ _ h => h) (yieldsIf_load_mid (by rfl) _ _ rfl B8 0 rfl _ _ (fun w h => bl_range HB8.out h) Tryd.underlying27 rfl HI8.out) hHeld ?_
            simp only [Act.put, List.getElem_toArray, List.getElem_cons_zero, List.getElem_cons_succ, List.setIfInBounds_toArray, List.set_cons_zero, List.set_cons_succ]
            refine wpAnyH_take (i := 1) (v := .slice (some ⟨B9, 0, none⟩) 32 32) rfl (by kernel_rfl) (by kernel_rfl) (by kernel_rfl) (fun _ _ _ h => h) (yi_slice _ _ _ _ (.pointer (some ⟨B9, 0, none⟩)) (.slice (some ⟨B9, 0, none⟩) 32 32) none none (by rfl) rfl rfl rfl rfl (fun w => cut_whole Tryd.underlying27 Tryd.sizeOf5 (by omega) _ w)) hHeld ?_
            simp only [Act.put, List.getElem_toArray, List.getElem_cons_zero, List.getElem_cons_succ, List.setIfInBounds_toArray, List.set_cons_zero, List.set_cons_succ]
            refine wpAnyH_take (i := 2) (v := .slice a2 m.length cap2) rfl (by kernel_rfl) (by kernel_rfl) (by kernel_rfl) (fun _ _ _ h => h) (yi_move _ (.slice a2 m.length cap2) (by rfl) rfl rfl) hHeld ?_
            simp only [Act.put, List.getElem_toArray, List.getElem_cons_zero, List.getElem_cons_succ, List.setIfInBounds_toArray, List.set_cons_zero, List.set_cons_succ]
            refine wpAnyH_ready (rs := [3]) (by kernel_rfl) (by simp) (AllReadyH.cons rfl (fun K hK => ?_) AllReadyH.nil)
            refine step_wp (by rfl) ?_
            refine wp_buildSlice_d (some 46) _ _ _ _ rfl rfl #[.slice a2 m.length cap2] iq (.slice none 0 0) Tryd.underlying23 HQ0.out HQ1.out (by rw [HQ2.out]; decide) (by rw [HQ2.out]; decide) (by rw [HQ2.out]; kernel_rfl) ?_
            obtain ⟨m1, hm1⟩ : ∃ wNew, wNew = World.alloc w9.drew (.cells #[.slice a2 m.length cap2] 22) := ⟨_, rfl⟩
            rw [← hm1]
            have b1 : Ext w9.drew m1 := by rw [hm1]; exact Ext.alloc _ _
            obtain ⟨g1, hg1⟩ : ∃ gNew, gNew = (w9.drew).heap.size := ⟨_, rfl⟩
            rw [← hg1]
            have r1 : Row1 m1 (.slice (some ⟨g1, 0, none⟩) 1 1) [.slice a2 m.length cap2] := by rw [hm1, hg1]; exact Row1.made _ _ _ _ _ _ rfl rfl rfl (by unfold maxLen; omega)
            clear hm1 hg1
            have N1 : Ext w9 m1 := B0.trans b1
            refine hK.out _ _ N1 (fun hHeld => ?_)
            clear hK K
            try simp only [Act.put, List.getElem_toArray, List.getElem_cons_zero, List.getElem_cons_succ, List.setIfInBounds_toArray, List.set_cons_zero, List.set_cons_succ]
            refine wpAnyH_ready (rs := [4]) (by kernel_rfl) (by simp) (AllReadyH.cons rfl (fun K hK => ?_) AllReadyH.nil)
            go_simp
            refine (MacSum_val _ _ (sha256 k) _ (m) _ ((blk_row (n := 32) HB9.out (by rw [List.length_map]; exact sha256_length _) (by unfold maxLen; omega)).below N1) (rowB1 r1 ((HM.out).below N1)) (by simp) (by rw [sha256_length]; omega) (by omega) (HG.out.ext (HE.out.trans N1))).mono ?_
            rintro e m2 ⟨rfl, b2⟩
            have r1 := r1.below b2
            have N2 : Ext w9 m2 := N1.trans b2
            refine hK.out _ _ N2 (fun hHeld => ?_)
            clear hK K
            try simp only [Act.put, List.getElem_toArray, List.getElem_cons_zero, List.getElem_cons_succ, List.setIfInBounds_toArray, List.set_cons_zero, List.set_cons_succ]
            refine wpAnyH_take (i := 5) (v := .bool true) rfl (by kernel_rfl) (by kernel_rfl) (by kernel_rfl) (fun _ _ _ h => h) (yi_eql _ _ _ _ _ 32 _ (hmac k m) (hmac (sha256 k) (m)) true (by rfl) rfl (decide_eq_true ((hmac_long m hk64).symm)) Tryd.underlying27 Tryd.underlying5 num_info num_cells num_guard rfl rfl (hmac_length _ _) (hmac_length _ _)) hHeld ?_
            simp only [Act.put, List.getElem_toArray, List.getElem_cons_zero, List.getElem_cons_succ, List.setIfInBounds_toArray, List.set_cons_zero, List.set_cons_succ]
            refine wpAnyH_ready (rs := [6]) (by kernel_rfl) (by simp) (AllReadyH.cons rfl (fun K hK => ?_) AllReadyH.nil)
            go_simp
            refine hK.out _ _ N2 (fun hHeld => ?_)
            clear hK K
            try simp only [Act.put, List.getElem_toArray, List.getElem_cons_zero, List.getElem_cons_succ, List.setIfInBounds_toArray, List.set_cons_zero, List.set_cons_succ]
            refine wpAnyH_done (by kernel_rfl) ?_ _
            go_wp2_with fail
            go_ret
            exact ⟨rfl, HE.out.trans N2⟩
          · have h64' : (k.length : Int) ≤ 64 := by omega
            have HNIL : Hid (w7.ownsRow w7.heap.size 5 1 (.slice none 0 0) 0 []) := Lib.hid (World.ownsRow_nil _ _ _ _)
            have HLM : Hid ((k.map bval).length = k.length) := Lib.hid (List.length_map _)
            have HKR7 := Lib.hid (HKR.out.below HE.out)
            have HKL : Hid (k.length ≤ 64) := Lib.hid (by omega)
            go_upto_region 9 with (at_builtin; refine wpList_append_row rfl _ _ 22 rfl w7.heap.size 5 i0 (.int .u8 0) 1 Tryd.underlying22 HI0.out HZ0.out HZ1.out HZ2.out rfl _ _ _ rfl HNIL.out rfl HKR7.out (bval_one _) (by have := HKL.out; rw [HLM.out]; unfold maxLen; omega) (by have := HKL.out; rw [HLM.out]; omega) (Nat.le_refl _) ?_; intro v8 w8 hown8 hgrow8)
            rw [List.nil_append, HLM.out, Nat.zero_add] at hown8
            have HE8 : Hid (Ext w7 w8) := Lib.hid (ext_own (Ext.refl _) HNIL.out (Nat.le_refl _) hgrow8)
            have HO8 := Lib.hid hown8
            have HS7 := Lib.hid HE.out.size
            clear hown8 hgrow8 HNIL
            go_wp2_with fail
            go_loopw [10, 11] (fun x iv wr => ∃ (j : Nat), j ≤ q ∧ iv = .int .i64 (j : Int) ∧ k.length + j ≤ 64 ∧ wr.ownsRow w7.heap.size 5 1 x (k.length + j) ((k ++ List.replicate j 0).map bval) ∧ Ext w7 wr) (fun _ iv _ => q - (intOf iv).toNat)
            case atStart => exact ⟨0, by omega, rfl, by have := HKL.out; omega, by simpa using HO8.out, HE8.out⟩
            case round =>
              clear HO8 HE8
              obtain ⟨j, hj, rfl, hjl, ho, hE⟩ := hrel
              have j0 : (0 : Int) ≤ (j : Int) := Int.natCast_nonneg _
              have HO := Lib.hid ho
              have HE2 := Lib.hid hE
              have HS := Lib.hid hE.size
              have HJL := Lib.hid hjl
              obtain ⟨ax, cx, hxv, x1, x2, x3, x4⟩ := Row1.of_own ho
              have hll : ((k ++ List.replicate j 0).map bval).length = k.length + j := by rw [List.length_map, List.length_append, List.length_replicate]
              rw [hll] at hxv
              subst hxv
              clear ho hE x1 x2 x3 x4
              by_cases hc1 : j < q
              · have hc1' : (j : Int) < (q : Int) := by omega
                by_cases hc2 : k.length + j < 64
                · have hc2' : ((k.length + j : Nat) : Int) < 64 := by omega
                  have hc3' : (k.length : Int) + (j : Int) < 64 := by omega
                  have HRZ : Hid (Row1 (wr.alloc (.cells #[.int .u8 0] 5)) (.slice (some ⟨wr.heap.size, 0, none⟩) 1 1) [.int .u8 0]) := Lib.hid (Row1.made wr _ _ _ _ _ rfl rfl rfl (by unfold maxLen; omega))
                  have HEA := Lib.hid (Ext.alloc wr (.cells #[.int .u8 0] 5))
                  have HOA := Lib.hid (own_below HO.out HEA.out)
                  have HSA : Hid (w7.heap.size ≤ (wr.alloc (.cells #[.int .u8 0] 5)).heap.size) := Lib.hid (by have := HS.out; simp; omega)
                  have HB1 : Hid (∀ u ∈ ([.int .u8 0] : List Value), u.oneCell' = true) := Lib.hid (bval_one [0])
                  go_wp2_with (at_builtin; refine wpList_append_row rfl _ _ 22 rfl w7.heap.size 5 i0 (.int .u8 0) 1 Tryd.underlying22 HI0.out HZ0.out HZ1.out HZ2.out rfl _ _ _ rfl HOA.out rfl HRZ.out HB1.out (by simp; unfold maxLen; omega) (by simp; omega) HSA.out ?_; intro v3 w3 hown3 hgrow3)
                  go_roundw
                  case rel =>
                    refine ⟨j + 1, by omega, by go_num, by omega, ?_, ext_own (HE2.out.trans HEA.out) HOA.out (Nat.le_refl _) hgrow3⟩
                    have e1 : (k ++ List.replicate (j + 1) 0).map bval = (k ++ List.replicate j 0).map bval ++ [.int .u8 0] := by
                      rw [List.replicate_succ', ← List.append_assoc, List.map_append]
                      rfl
                    rw [e1]
                    exact hown3
                  case measure => simp [intOf]; omega
                · have hc2' : ¬ ((k.length + j : Nat) : Int) < 64 := by omega
                  have hc3' : (64 : Int) ≤ (k.length : Int) + (j : Int) := by omega
                  have HE := Lib.hid (HE.out.trans HE2.out)
                  have HM := Lib.hid (HM.out.below HE2.out)
                  have HB8 := Lib.hid (HB8.out.same (HE2.out.block _ HB8.out.lt))
                  have HX : Hid (Row1 wr (.slice ax (k.length + j) cx) ((k ++ List.replicate j 0).map bval)) := Lib.hid (Row1.of_own HO.out)
                  clear HE2 HO HS
                  go_wp2_with fail
                  have B0 : Ext wr wr.drew := Ext.drew _
                  refine wp_region_held_drew (S := fun w' => Ext wr w') (by kernel_rfl) B0 (fun hHeld => ?_)
                  refine wpAnyH_take (i := 0) (v := .agg ((hmac k m).map bval).toArray) rfl (by kernel_rfl) (by kernel_rfl) (by kernel_rfl) (fun _ _ _ h => h) (yieldsIf_load_mid (by rfl) _ _ rfl B8 0 rfl _ _ (fun w h => bl_range HB8.out h) Tryd.underlying27 rfl HI8.out) hHeld ?_
                  simp only [Act.put, List.getElem_toArray, List.getElem_cons_zero, List.getElem_cons_succ, List.setIfInBounds_toArray, List.set_cons_zero, List.set_cons_succ]
                  refine wpAnyH_take (i := 1) (v := .slice ax (k.length + j) cx) rfl (by kernel_rfl) (by kernel_rfl) (by kernel_rfl) (fun _ _ _ h => h) (yi_move _ (.slice ax (k.length + j) cx) (by rfl) rfl rfl) hHeld ?_
                  simp only [Act.put, List.getElem_toArray, List.getElem_cons_zero, List.getElem_cons_succ, List.setIfInBounds_toArray, List.set_cons_zero, List.set_cons_succ]
                  refine wpAnyH_take (i := 2) (v := .slice a2 m.length cap2) rfl (by kernel_rfl) (by kernel_rfl) (by kernel_rfl) (fun _ _ _ h => h) (yi_move _ (.slice a2 m.length cap2) (by rfl) rfl rfl) hHeld ?_
                  simp only [Act.put, List.getElem_toArray, List.getElem_cons_zero, List.getElem_cons_succ, List.setIfInBounds_toArray, List.set_cons_zero, List.set_cons_succ]
                  refine wpAnyH_ready (rs := [3]) (by kernel_rfl) (by simp) (AllReadyH.cons rfl (fun K hK => ?_) AllReadyH.nil)
                  refine step_wp (by rfl) ?_
                  refine wp_buildSlice_d (some 67) _ _ _ _ rfl rfl #[.slice a2 m.length cap2] iq (.slice none 0 0) Tryd.underlying23 HQ0.out HQ1.out (by rw [HQ2.out]; decide) (by rw [HQ2.out]; decide) (by rw [HQ2.out]; kernel_rfl) ?_
                  obtain ⟨m1, hm1⟩ : ∃ wNew, wNew = World.alloc wr.drew (.cells #[.slice a2 m.length cap2] 22) := ⟨_, rfl⟩
                  rw [← hm1]
                  have b1 : Ext wr.drew m1 := by rw [hm1]; exact Ext.alloc _ _
                  obtain ⟨g1, hg1⟩ : ∃ gNew, gNew = (wr.drew).heap.size := ⟨_, rfl⟩
                  rw [← hg1]
                  have r1 : Row1 m1 (.slice (some ⟨g1, 0, none⟩) 1 1) [.slice a2 m.length cap2] := by rw [hm1, hg1]; exact Row1.made _ _ _ _ _ _ rfl rfl rfl (by unfold maxLen; omega)
                  clear hm1 hg1
                  have N1 : Ext wr m1 := B0.trans b1
                  refine hK.out _ _ N1 (fun hHeld => ?_)
                  clear hK K
                  try simp only [Act.put, List.getElem_toArray, List.getElem_cons_zero, List.getElem_cons_succ, List.setIfInBounds_toArray, List.set_cons_zero, List.set_cons_succ]
                  refine wpAnyH_ready (rs := [4]) (by kernel_rfl) (by simp) (AllReadyH.cons rfl (fun K hK => ?_) AllReadyH.nil)
                  go_simp
                  refine (MacSum_val _ _ (k ++ List.replicate j 0) _ (m) _ ((HX.out).below N1) (rowB1 r1 ((HM.out).below N1)) (by simp) (by rw [List.length_append, List.length_replicate]; have := HJL.out; omega) (by omega) (HG.out.ext (HE.out.trans N1))).mono ?_
                  rintro e m2 ⟨rfl, b2⟩
                  have r1 := r1.below b2
                  have N2 : Ext wr m2 := N1.trans b2
                  refine hK.out _ _ N2 (fun hHeld => ?_)
                  clear hK K
                  try simp only [Act.put, List.getElem_toArray, List.getElem_cons_zero, List.getElem_cons_succ, List.setIfInBounds_toArray, List.set_cons_zero, List.set_cons_succ]
                  refine wpAnyH_take (i := 5) (v := .bool true) rfl (by kernel_rfl) (by kernel_rfl) (by kernel_rfl) (fun _ _ _ h => h) (yi_eql _ _ _ _ _ 32 _ (hmac k m) (hmac (k ++ List.replicate j 0) (m)) true (by rfl) rfl (decide_eq_true ((hmac_zeros k m j (by have := HJL.out; omega)).symm)) Tryd.underlying27 Tryd.underlying5 num_info num_cells num_guard rfl rfl (hmac_length _ _) (hmac_length _ _)) hHeld ?_
                  simp only [Act.put, List.getElem_toArray, List.getElem_cons_zero, List.getElem_cons_succ, List.setIfInBounds_toArray, List.set_cons_zero, List.set_cons_succ]
                  refine wpAnyH_ready (rs := [6]) (by kernel_rfl) (by simp) (AllReadyH.cons rfl (fun K hK => ?_) AllReadyH.nil)
                  go_simp
                  refine hK.out _ _ N2 (fun hHeld => ?_)
                  clear hK K
                  try simp only [Act.put, List.getElem_toArray, List.getElem_cons_zero, List.getElem_cons_succ, List.setIfInBounds_toArray, List.set_cons_zero, List.set_cons_succ]
                  refine wpAnyH_done (by kernel_rfl) ?_ _
                  go_wp2_with fail
                  go_ret
                  exact ⟨rfl, HE.out.trans N2⟩
              · have hc1' : (q : Int) ≤ (j : Int) := by omega
                have HE := Lib.hid (HE.out.trans HE2.out)
                have HM := Lib.hid (HM.out.below HE2.out)
                have HB8 := Lib.hid (HB8.out.same (HE2.out.block _ HB8.out.lt))
                have HX : Hid (Row1 wr (.slice ax (k.length + j) cx) ((k ++ List.replicate j 0).map bval)) := Lib.hid (Row1.of_own HO.out)
                clear HE2 HO HS
                go_wp2_with fail
                have B0 : Ext wr wr.drew := Ext.drew _
                refine wp_region_held_drew (S := fun w' => Ext wr w') (by kernel_rfl) B0 (fun hHeld => ?_)
                refine wpAnyH_take (i := 0) (v := .agg ((hmac k m).map bval).toArray) rfl (by kernel_rfl) (by kernel_rfl) (by kernel_rfl) (fun _ _ _ h => h) (yieldsIf_load_mid (by rfl) _ _ rfl B8 0 rfl _ _ (fun w h => bl_range HB8.out h) Tryd.underlying27 rfl HI8.out) hHeld ?_
                simp only [Act.put, List.getElem_toArray, List.getElem_cons_zero, List.getElem_cons_succ, List.setIfInBounds_toArray, List.set_cons_zero, List.set_cons_succ]
                refine wpAnyH_take (i := 1) (v := .slice ax (k.length + j) cx) rfl (by kernel_rfl) (by kernel_rfl) (by kernel_rfl) (fun _ _ _ h => h) (yi_move _ (.slice ax (k.length + j) cx) (by rfl) rfl rfl) hHeld ?_
                simp only [Act.put, List.getElem_toArray, List.getElem_cons_zero, List.getElem_cons_succ, List.setIfInBounds_toArray, List.set_cons_zero, List.set_cons_succ]
                refine wpAnyH_take (i := 2) (v := .slice a2 m.length cap2) rfl (by kernel_rfl) (by kernel_rfl) (by kernel_rfl) (fun _ _ _ h => h) (yi_move _ (.slice a2 m.length cap2) (by rfl) rfl rfl) hHeld ?_
                simp only [Act.put, List.getElem_toArray, List.getElem_cons_zero, List.getElem_cons_succ, List.setIfInBounds_toArray, List.set_cons_zero, List.set_cons_succ]
                refine wpAnyH_ready (rs := [3]) (by kernel_rfl) (by simp) (AllReadyH.cons rfl (fun K hK => ?_) AllReadyH.nil)
                refine step_wp (by rfl) ?_
                refine wp_buildSlice_d (some 67) _ _ _ _ rfl rfl #[.slice a2 m.length cap2] iq (.slice none 0 0) Tryd.underlying23 HQ0.out HQ1.out (by rw [HQ2.out]; decide) (by rw [HQ2.out]; decide) (by rw [HQ2.out]; kernel_rfl) ?_
                obtain ⟨m1, hm1⟩ : ∃ wNew, wNew = World.alloc wr.drew (.cells #[.slice a2 m.length cap2] 22) := ⟨_, rfl⟩
                rw [← hm1]
                have b1 : Ext wr.drew m1 := by rw [hm1]; exact Ext.alloc _ _
                obtain ⟨g1, hg1⟩ : ∃ gNew, gNew = (wr.drew).heap.size := ⟨_, rfl⟩
                rw [← hg1]
                have r1 : Row1 m1 (.slice (some ⟨g1, 0, none⟩) 1 1) [.slice a2 m.length cap2] := by rw [hm1, hg1]; exact Row1.made _ _ _ _ _ _ rfl rfl rfl (by unfold maxLen; omega)
                clear hm1 hg1
                have N1 : Ext wr m1 := B0.trans b1
                refine hK.out _ _ N1 (fun hHeld => ?_)
                clear hK K
                try simp only [Act.put, List.getElem_toArray, List.getElem_cons_zero, List.getElem_cons_succ, List.setIfInBounds_toArray, List.set_cons_zero, List.set_cons_succ]
                refine wpAnyH_ready (rs := [4]) (by kernel_rfl) (by simp) (AllReadyH.cons rfl (fun K hK => ?_) AllReadyH.nil)
                go_simp
                refine (MacSum_val _ _ (k ++ List.replicate j 0) _ (m) _ ((HX.out).below N1) (rowB1 r1 ((HM.out).below N1)) (by simp) (by rw [List.length_append, List.length_replicate]; have := HJL.out; omega) (by omega) (HG.out.ext (HE.out.trans N1))).mono ?_
                rintro e m2 ⟨rfl, b2⟩
                have r1 := r1.below b2
                have N2 : Ext wr m2 := N1.trans b2
                refine hK.out _ _ N2 (fun hHeld => ?_)
                clear hK K
                try simp only [Act.put, List.getElem_toArray, List.getElem_cons_zero, List.getElem_cons_succ, List.setIfInBounds_toArray, List.set_cons_zero, List.set_cons_succ]
                refine wpAnyH_take (i := 5) (v := .bool true) rfl (by kernel_rfl) (by kernel_rfl) (by kernel_rfl) (fun _ _ _ h => h) (yi_eql _ _ _ _ _ 32 _ (hmac k m) (hmac (k ++ List.replicate j 0) (m)) true (by rfl) rfl (decide_eq_true ((hmac_zeros k m j (by have := HJL.out; omega)).symm)) Tryd.underlying27 Tryd.underlying5 num_info num_cells num_guard rfl rfl (hmac_length _ _) (hmac_length _ _)) hHeld ?_
                simp only [Act.put, List.getElem_toArray, List.getElem_cons_zero, List.getElem_cons_succ, List.setIfInBounds_toArray, List.set_cons_zero, List.set_cons_succ]
                refine wpAnyH_ready (rs := [6]) (by kernel_rfl) (by simp) (AllReadyH.cons rfl (fun K hK => ?_) AllReadyH.nil)
                go_simp
                refine hK.out _ _ N2 (fun hHeld => ?_)
                clear hK K
                try simp only [Act.put, List.getElem_toArray, List.getElem_cons_zero, List.getElem_cons_succ, List.setIfInBounds_toArray, List.set_cons_zero, List.set_cons_succ]
                refine wpAnyH_done (by kernel_rfl) ?_ _
                go_wp2_with fail
                go_ret
                exact ⟨rfl, HE.out.trans N2⟩

end Go.Proofs.YtoojcicbeclnhaaDoor
