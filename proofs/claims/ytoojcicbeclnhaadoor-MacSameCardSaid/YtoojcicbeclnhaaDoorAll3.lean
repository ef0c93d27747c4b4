/- Texts that belong together, one behind the other; each says in its own first remark what it shows. -/
import Derived.Test.YtoojcicbeclnhaaDoorProg
import Derived.Test.YtoojcicbeclnhaaDoorAll1
import Derived.Test.YtoojcicbeclnhaaDoorAll2
import Derived.Lib.SlBytesConst

/- The walk of the document's own Hex. Each theorem names its own conditions. -/
namespace Go.Proofs.YtoojcicbeclnhaaDoor
open Go.RowKit
set_option linter.unusedVariables false
set_option linter.unusedSimpArgs false

def hexD (n : Nat) : UInt8 := [48, 49, 50, 51, 52, 53, 54, 55, 56, 57, 97, 98, 99, 100, 101, 102].getD n 0
def hexL (l : List UInt8) : List UInt8 := l.flatMap fun c => [hexD (c.toNat / 16), hexD (c.toNat % 16)]
theorem hexL_length : ∀ l : List UInt8, (hexL l).length = 2 * l.length
  | [] => rfl
  | c :: r => by
    have := hexL_length r
    simp only [hexL, List.flatMap_cons, List.length_append, List.length_cons, List.length_nil] at *
    omega
theorem hexL_snoc (l : List UInt8) (k : Nat) (hk : k < l.length) : hexL (l.take (k + 1)) = hexL (l.take k) ++ [hexD ((l.getD k 0).toNat / 16), hexD ((l.getD k 0).toNat % 16)] := by
  rw [List.take_succ_eq_append_getElem hk]
  unfold hexL
  rw [List.flatMap_append]
  simp [List.getD, hk]
theorem index_hex (n : Nat) (hn : n < 16) (w : World) :
    (Instr.index 9 (.string { data := #[48, 49, 50, 51, 52, 53, 54, 55, 56, 57, 97, 98, 99, 100, 101, 102] }) (.int .u8 (n : Int))).run Tryd.prog w = .ok (bval (hexD n)) w := by
  rcases (by omega : n = 0 ∨ n = 1 ∨ n = 2 ∨ n = 3 ∨ n = 4 ∨ n = 5 ∨ n = 6 ∨ n = 7 ∨ n = 8 ∨ n = 9 ∨ n = 10 ∨ n = 11 ∨ n = 12 ∨ n = 13 ∨ n = 14 ∨ n = 15) with rfl | rfl | rfl | rfl | rfl | rfl | rfl | rfl | rfl | rfl | rfl | rfl | rfl | rfl | rfl | rfl <;> kernel_rfl
theorem and_u8_15 (n : Nat) : bits .and .u8 (n : Int) 15 = ((n % 16 : Nat) : Int) := by
  have h : (BitVec.ofInt 8 15).toNat = 2 ^ 4 - 1 := by decide
  have key : (BitVec.ofInt 8 (n : Int) &&& BitVec.ofInt 8 15).toNat = ((n : Int) % ((2 ^ 8 : Nat) : Int)).toNat % 2 ^ 4 := by
    rw [BitVec.toNat_and, BitVec.toNat_ofInt, h, Nat.and_two_pow_sub_one_eq_mod]
  show IntKind.u8.wrap ((BitVec.ofInt 8 (n : Int) &&& BitVec.ofInt 8 15).toNat : Nat) = _
  rw [key, IntKind.wrap_u8]
  omega

set_option maxRecDepth 100000 in
set_option maxHeartbeats 4000000 in
theorem hex_any (v : Value) (l : List UInt8) (w : World) (hv : Row1 w v (l.map bval)) (hb : l.length ≤ 1099511627776) :
    Calls Tryd.prog 15 #[v] w fun e w' => e = .returned (.string ⟨(hexL l).toArray⟩) ∧ Below w.heap.size w w' := by
  obtain ⟨i0, hi, hz0, hz1, hz2⟩ := info_parts Tryd.info5
  obtain ⟨a, cap, rfl, r1, r2, r3, r4⟩ := id hv
  unfold maxLen at r2
  rw [List.length_map] at r1 ⊢
  have HI0 := Lib.hid hi
  have HZ0 := Lib.hid hz0
  have HZ1 := Lib.hid hz1
  have HZ2 := Lib.hid hz2
  have HC := Lib.hid r4
  have HB := Lib.hid hb
  have HNIL : Hid (w.ownsRow w.heap.size 5 1 (.slice none 0 0) 0 []) := Lib.hid (World.ownsRow_nil _ _ _ _)
  clear hv r3 r4 hb hi hz0 hz1 hz2
  go_enter Tryd.func15, Tryd.ntmps15
  go_wp2_with fail
  go_loopw [3, 4] (fun x iv wr => ∃ (k : Nat) (xv : Value), k ≤ l.length ∧ xv = x ∧ iv = .int .i64 (k : Int) ∧ wr.ownsRow w.heap.size 5 1 xv (hexL (l.take k)).length ((hexL (l.take k)).map bval) ∧ Ext w wr) (fun _ iv _ => l.length - (intOf iv).toNat)
  case atStart => exact ⟨0, _, by omega, rfl, rfl, HNIL.out, Ext.refl w⟩
  case round =>
    clear HNIL
    obtain ⟨k, xv, hk, rfl, rfl, ho, hE⟩ := hrel
    have k0 : (0 : Int) ≤ (k : Int) := Int.natCast_nonneg _
    have HO := Lib.hid ho
    have HE := Lib.hid hE
    have HS := Lib.hid hE.size
    clear ho hE
    by_cases hlk : k < l.length
    · have k1 : (k : Int) < (l.length : Int) := by omega
      obtain ⟨b', off, rfl, hbs, hcell⟩ := HC.out (by intro e; have h := congrArg List.length e; rw [List.length_map] at h; simp only [List.length_nil] at h; omega)
      have c0 : wr.cell? ⟨b', off + k, none⟩ = some (.int .u8 ((l.getD k 0).toNat : Int)) := by
        have h := hcell k (by rw [List.length_map]; exact hlk)
        rw [bval_get hlk] at h
        rw [← h]
        exact HE.out.cell (p := ⟨b', off + k, none⟩) hbs
      have HSN := Lib.hid (hexL_snoc l k hlk)
      have HLL : Hid ((hexL (l.take k)).length ≤ 2199023255552) := Lib.hid (by rw [hexL_length, List.length_take]; have := HB.out; omega)
      have hn := UInt8.toNat_lt (l.getD k 0)
      generalize (l.getD k 0).toNat = n at *
      have i1 := index_hex (n / 16) (by omega)
      have i2 := index_hex (n % 16) (by omega)
      have d1 : ((n / 16 : Nat) : Int) = (n : Int) / 16 := by omega
      have d2 : ((n % 16 : Nat) : Int) = (n : Int) % 16 := by omega
      have d3 := and_u8_15 n
      rw [d2] at d3 i2
      rw [d1] at i1
      generalize hexD (n / 16) = x1 at *
      generalize hexD (n % 16) = x2 at *
      clear d1 d2 hcell
      have hbw : b' < wr.heap.size := Nat.lt_of_lt_of_le hbs HE.out.size
      go_wp2_with fail
      refine wp_region_from 13 3 14 rfl (by kernel_rfl) (by kernel_rfl) (fun d v c a w h => by cases d <;> exact h) (by kernel_rfl) ?_
      refine det_move _ (xv) (by rfl) rfl rfl ?_
      simp only [Act.put, List.setIfInBounds_toArray, List.set_cons_zero, List.set_cons_succ]
      refine det_move _ (.slice (some ⟨b', off, none⟩) l.length cap) (by rfl) rfl rfl ?_
      simp only [Act.put, List.setIfInBounds_toArray, List.set_cons_zero, List.set_cons_succ]
      refine det_move _ (.int .i64 (k : Int)) (by rfl) rfl rfl ?_
      simp only [Act.put, List.setIfInBounds_toArray, List.set_cons_zero, List.set_cons_succ]
      refine det_sindex _ _ _ _ b' off l.length cap k (by rfl) rfl rfl rfl Tryd.underlying22 hlk Tryd.sizeOf5 ?_
      simp only [Act.put, List.setIfInBounds_toArray, List.set_cons_zero, List.set_cons_succ]
      refine det_cell _ _ b' (off + k) (.int .u8 (n : Int)) (by rfl) rfl rfl (fun w' hw => by rw [← c0]; exact hw.cell (p := ⟨b', off + k, none⟩) hbw) Tryd.isAgg5 ?_
      simp only [Act.put, List.setIfInBounds_toArray, List.set_cons_zero, List.set_cons_succ]
      refine det_val (.int .u8 ((n : Int) / 16)) (by rfl) (fun w hw => by go_simp) ?_
      simp only [Act.put, List.setIfInBounds_toArray, List.set_cons_zero, List.set_cons_succ]
      refine det_vindex _ _ _ _ _ (bval x1) (by rfl) rfl rfl rfl i1 ?_
      simp only [Act.put, List.setIfInBounds_toArray, List.set_cons_zero, List.set_cons_succ]
      refine det_move _ (.slice (some ⟨b', off, none⟩) l.length cap) (by rfl) rfl rfl ?_
      simp only [Act.put, List.setIfInBounds_toArray, List.set_cons_zero, List.set_cons_succ]
      refine det_move _ (.int .i64 (k : Int)) (by rfl) rfl rfl ?_
      simp only [Act.put, List.setIfInBounds_toArray, List.set_cons_zero, List.set_cons_succ]
      refine det_sindex _ _ _ _ b' off l.length cap k (by rfl) rfl rfl rfl Tryd.underlying22 hlk Tryd.sizeOf5 ?_
      simp only [Act.put, List.setIfInBounds_toArray, List.set_cons_zero, List.set_cons_succ]
      refine det_cell _ _ b' (off + k) (.int .u8 (n : Int)) (by rfl) rfl rfl (fun w' hw => by rw [← c0]; exact hw.cell (p := ⟨b', off + k, none⟩) hbw) Tryd.isAgg5 ?_
      simp only [Act.put, List.setIfInBounds_toArray, List.set_cons_zero, List.set_cons_succ]
      refine det_and _ _ _ _ _ _ _ ((n : Int) % 16) (by rfl) rfl rfl rfl d3 ?_
      simp only [Act.put, List.setIfInBounds_toArray, List.set_cons_zero, List.set_cons_succ]
      refine det_vindex _ _ _ _ _ (bval x2) (by rfl) rfl rfl rfl i2 ?_
      simp only [Act.put, List.setIfInBounds_toArray, List.set_cons_zero, List.set_cons_succ]
      refine det_nil ?_
      refine end_step (k := 13) (by rfl) (by decide +kernel) (by decide +kernel) rfl (fun w1 hw1 => ?_)
      refine wp_buildSlice_d (some 24) _ _ _ _ rfl rfl #[bval x1, bval x2] i0 (.int .u8 0) Tryd.underlying22 HI0.out HZ0.out (by rw [HZ1.out]; decide) (by rw [HZ1.out]; decide) (by rw [HZ1.out]; kernel_rfl) ?_
      refine ⟨Ext.alloc _ _, anyB_done (by decide +kernel) (fun w2 hw2 => ?_)⟩
      simp only [Act.put, List.setIfInBounds_toArray, List.set_cons_zero, List.set_cons_succ]
      have HE2 := Lib.hid ((HE.out.trans hw1).trans ((Ext.alloc w1 (.cells #[bval x1, bval x2] 5)).trans hw2))
      have HO2 := Lib.hid (own_below (own_below (own_below HO.out hw1) (Ext.alloc w1 (.cells #[bval x1, bval x2] 5))) hw2)
      have HR2 : Hid (Row1 w2 (.slice (some ⟨w1.heap.size, 0, none⟩) 2 2) ([x1, x2].map bval)) := Lib.hid ((Row1.made w1 #[bval x1, bval x2] 5 _ 2 _ rfl rfl rfl (by unfold maxLen; omega)).below hw2)
      refine any_one (k := 14) (by rfl) (by decide +kernel) rfl ?_
      refine wp_append_row_d (some 25) _ _ 22 rfl rfl w.heap.size 5 i0 (.int .u8 0) 1 Tryd.underlying22 HI0.out HZ0.out HZ1.out HZ2.out rfl _ _ _ rfl HO2.out rfl HR2.out (bval_one _) (by have := HLL.out; unfold maxLen; simp; omega) (by have := HLL.out; simp; omega) HE2.out.size ?_
      intro v3 w3 hown3 hgrow3
      simp only [Act.put, List.setIfInBounds_toArray, List.set_cons_zero, List.set_cons_succ]
      refine any_one (k := 15) (by rfl) (by decide +kernel) rfl ?_
      refine wp_assign_d (some 3) _ v3 rfl rfl rfl ?_
      refine any_nil (by decide +kernel) ?_
      simp only [Act.put, List.setIfInBounds_toArray, List.set_cons_zero, List.set_cons_succ]
      have HX3 := Lib.hid (ext_own HE2.out HO2.out (Nat.le_refl _) hgrow3)
      have HO3 := Lib.hid hown3
      clear hown3 hgrow3
      go_wp2_with fail
      go_roundw
      case rel =>
        refine ⟨k + 1, v3, by omega, rfl, by go_num, ?_, HX3.out⟩
        rw [HSN.out, List.map_append, List.length_append]
        exact HO3.out
      case measure => simp [intOf]; omega
    · have hk2 : (l.length : Int) ≤ (k : Int) := by omega
      have hke : k = l.length := by omega
      have hrw := Row1.of_own HO.out
      rw [hke, List.take_length] at hrw
      have hst := run_string_row 22 9 5 Tryd.underlying22 Tryd.underlying5 Tryd.underlying9 hrw
      clear hrw hke
      go_wp2_with fail
      go_ret
      exact ⟨rfl, HE.out⟩

end Go.Proofs.YtoojcicbeclnhaaDoor

/- The walk of what every law of chapter 7 begins with: alive. Each theorem names its own conditions. -/
namespace Go.Proofs.YtoojcicbeclnhaaDoor
open Go.RowKit
set_option linter.unusedVariables false
set_option linter.unusedSimpArgs false

def jefe : List UInt8 := [74, 101, 102, 101]
def whatYa : List UInt8 := [119, 104, 97, 116, 32, 100, 111, 32, 121, 97, 32, 119, 97, 110, 116, 32, 102, 111, 114, 32, 110, 111, 116, 104, 105, 110, 103, 63]
theorem alive_hexM : hexL (hmac jefe whatYa) = [53, 98, 100, 99, 99, 49, 52, 54, 98, 102, 54, 48, 55, 53, 52, 101, 54, 97, 48, 52, 50, 52, 50, 54, 48, 56, 57, 53, 55, 53, 99, 55, 53, 97, 48, 48, 51, 102, 48, 56, 57, 100, 50, 55, 51, 57, 56, 51, 57, 100, 101, 99, 53, 56, 98, 57, 54, 52, 101, 99, 51, 56, 52, 51] := by decide +kernel

set_option maxRecDepth 100000 in
set_option maxHeartbeats 4000000 in
theorem alive_anyM (w : World) (hG : GlobR w) : Calls Tryd.prog 7 #[] w fun e w' => e = .returned (.bool true) ∧ Below w.heap.size w w' := by
  have HG := Lib.hid hG
  clear hG
  have kc := fun (w : World) (C : Array Value) (n c : Nat) => Lib.run_convert_bytes_const (P := Tryd.prog) w 22 5 C n c Tryd.underlying22 Tryd.underlying5
  have kc2 := fun (w : World) (D C : Array Value) (fr : Nat × Nat) (n c : Nat) => kc (w.alloc (.cells D 5 fr)) C n c
  simp only [size_alloc_w] at kc2
  go_enter Tryd.func7, Tryd.ntmps7
  go_wp2_with fail
  have HE1 := Lib.hid (Ext.alloc w (.cells (jefe.map bval).toArray 5 (4, 5)))
  have HR1 : Hid (Row1 (w.alloc (.cells (jefe.map bval).toArray 5 (4, 5))) (.slice (some ⟨w.heap.size, 0, none⟩) 4 4) (jefe.map bval)) := Lib.hid (Row1.made_mark w _ _ _ _ _ _ rfl rfl rfl (by unfold maxLen; omega))
  have HS1 : Hid ((w.alloc (.cells (jefe.map bval).toArray 5 (4, 5))).heap.size = w.heap.size + 1) := Lib.hid (by simp)
  change Calls _ _ _ (((w.alloc (.cells (jefe.map bval).toArray 5 (4, 5))).alloc (.cells (whatYa.map bval).toArray 5 (28, 29))).alloc (.cells #[.slice (some ⟨w.heap.size + 1, 0, none⟩) 28 28] 22)) _
  generalize w.alloc (.cells (jefe.map bval).toArray 5 (4, 5)) = w1 at *
  rw [← HS1.out]
  have HE2 := Lib.hid (Ext.alloc w1 (.cells (whatYa.map bval).toArray 5 (28, 29)))
  have HR2 : Hid (Row1 (w1.alloc (.cells (whatYa.map bval).toArray 5 (28, 29))) (.slice (some ⟨w1.heap.size, 0, none⟩) 28 28) (whatYa.map bval)) := Lib.hid (Row1.made_mark w1 _ _ _ _ _ _ rfl rfl rfl (by unfold maxLen; omega))
  have HS2 : Hid ((w1.alloc (.cells (whatYa.map bval).toArray 5 (28, 29))).heap.size = w1.heap.size + 1) := Lib.hid (by simp)
  generalize w1.alloc (.cells (whatYa.map bval).toArray 5 (28, 29)) = w2 at *
  rw [← HS2.out]
  have HE3 := Lib.hid (HE1.out.trans HE2.out)
  refine (MacSum_one _ _ jefe whatYa w2 (HR1.out.below HE2.out) HR2.out (by decide) (by decide) (HG.out.ext HE3.out)).mono ?_
  rintro e w4 ⟨rfl, hb⟩
  have HE4 := Lib.hid (HE3.out.trans hb)
  clear hb HR1 HR2 HE1 HE2 HE3 HS1 HS2
  have HAH := Lib.hid alive_hexM
  have HL := Lib.hid (hmac_length jefe whatYa)
  generalize hmac jefe whatYa = o at *
  have HZ := Lib.hid (Blk.made w4 (ints .u8 (List.replicate 32 0)) 27)
  have HS2 := Lib.hid HE4.out.size
  have HE4 := Lib.hid (HE4.out.trans (Ext.alloc w4 (.cells (ints .u8 (List.replicate 32 0)).toArray 27)))
  have HIo : Hid ((Tryd.prog.info? 27).map (·.size) = some (o.map bval).length) := Lib.hid (num_size HL.out)
  have HLo : Hid ((o.map bval).length = (ints .u8 (List.replicate 32 0)).length) := Lib.hid (by rw [List.length_map, HL.out, ints_length, List.length_replicate])
  go_wp2_with (refine wpList_store_blk rfl _ _ _ rfl w4.heap.size (o.map bval) rfl rfl _ _ HZ.out HLo.out HIo.out (bval_one _) ?_; intro w7 hb7 hg7)
  have HE5 := Lib.hid (ext_grown HE4.out hg7 HS2.out)
  have HR5 := Lib.hid (blk_row (n := 32) hb7 (by rw [List.length_map, HL.out]) (by unfold maxLen; omega))
  clear hb7 hg7 HZ HE4
  refine (hex_any _ o _ HR5.out (by rw [HL.out]; omega)).mono ?_
  rintro e w8 ⟨rfl, hb⟩
  have HE6 := Lib.hid (HE5.out.trans hb)
  clear hb HR5
  rw [HAH.out]
  go_wp2_with fail
  go_ret
  exact ⟨rfl, HE6.out⟩

end Go.Proofs.YtoojcicbeclnhaaDoor

/- The walk of MacSame. Each theorem names its own conditions. -/
namespace Go.Proofs.YtoojcicbeclnhaaDoor
open Go.RowKit
set_option linter.unusedVariables false
set_option linter.unusedSimpArgs false

theorem xor_zero_iff (x y : UInt8) : x ^^^ y = x ↔ y.toNat = 0 := by
  constructor
  · intro h
    have h2 := congrArg UInt8.toNat h
    rw [UInt8.toNat_xor] at h2
    have h3 : x.toNat ^^^ (x.toNat ^^^ y.toNat) = x.toNat ^^^ x.toNat := by rw [h2]
    rw [← Nat.xor_assoc, Nat.xor_self, Nat.zero_xor] at h3
    exact h3
  · intro h
    apply UInt8.toNat_inj.1
    rw [UInt8.toNat_xor, h, Nat.xor_zero]
theorem set_same_iff (l : List UInt8) (p : Nat) (hp : p < l.length) (z : UInt8) : l = l.set p z ↔ z = l.getD p 0 := by
  constructor
  · intro h
    have h2 : l.getD p 0 = (l.set p z).getD p 0 := congrArg (fun k : List UInt8 => k.getD p 0) h
    rw [List.getD_eq_getElem?_getD (l := l.set p z), List.getElem?_set_self hp] at h2
    exact h2.symm
  · intro h
    subst h
    apply List.ext_getElem (by simp)
    intro i h1 h3
    rw [List.getElem_set]
    split
    · rename_i e
      subst e
      simp only [List.getD, List.getElem?_eq_getElem hp, Option.getD_some]
    · rfl

set_option maxRecDepth 100000 in
set_option maxHeartbeats 8000000 in
theorem macSame_any (kv bv : Value) (l o : List UInt8) (i : Int) (y : UInt8) (w : World) (hk : Row1 w kv (l.map bval)) (hm : Row1 w bv (o.map bval)) (hi1 : -9223372036854775808 ≤ i) (hi2 : i ≤ 9223372036854775807) (hG : GlobR w) :
    Calls Tryd.prog 5 #[kv, bv, .int .i64 i, .int .u8 (y.toNat : Int)] w fun e w' => e = .returned (.bool true) ∧ Below w.heap.size w w' := by
  obtain ⟨iq, hq0, hq1, hq2⟩ := info_two Tryd.info22
  have HQ0 := Lib.hid hq0
  have HQ1 := Lib.hid hq1
  have HQ2 := Lib.hid hq2
  obtain ⟨i0, hi, hz0, hz1, hz2⟩ := info_parts Tryd.info5
  have HI0 := Lib.hid hi
  have HZ0 := Lib.hid hz0
  have HZ1 := Lib.hid hz1
  have HZ2 := Lib.hid hz2
  have HG := Lib.hid hG
  have HKR := Lib.hid hk
  have HMR := Lib.hid hm
  obtain ⟨a, cap, rfl, r1, r2, r3, r4⟩ := id hk
  obtain ⟨a2, cap2, hbv, q1, q2, q3, q4⟩ := id hm
  rw [List.length_map] at r1 HKR hbv ⊢
  unfold maxLen at r2
  clear hG hk hm r3 r4 q1 q2 q3 q4 hi hz0 hz1 hz2 hq0 hq1 hq2
  have HBV := Lib.hid hbv
  clear hbv
  go_enter Tryd.func5, Tryd.ntmps5
  go_wp2_with fail
  refine (alive_anyM w HG.out).mono ?_
  rintro e w1 ⟨rfl, hb⟩
  have HE : Hid (Ext w w1) := Lib.hid hb
  clear hb
  have hbv := HBV.out
  subst hbv
  by_cases h1 : 1000 < l.length
  · have h1' : (1000 : Int) < (l.length : Int) := by omega
    go_wp2_with fail
    go_ret
    exact ⟨rfl, HE.out⟩
  · by_cases h2 : 1000 < o.length
    · have h1' : decide ((1000 : Int) < (l.length : Int)) = false := decide_eq_false (by omega)
      have h2' : (1000 : Int) < (o.length : Int) := by omega
      go_wp2_with fail
      go_ret
      exact ⟨rfl, HE.out⟩
    · by_cases h3 : i < 0
      · have h1' : decide ((1000 : Int) < (l.length : Int)) = false := decide_eq_false (by omega)
        have h2' : decide ((1000 : Int) < (o.length : Int)) = false := decide_eq_false (by omega)
        go_wp2_with fail
        go_ret
        exact ⟨rfl, HE.out⟩
      · have h1' : decide ((1000 : Int) < (l.length : Int)) = false := decide_eq_false (by omega)
        have h2' : decide ((1000 : Int) < (o.length : Int)) = false := decide_eq_false (by omega)
        have h3' : decide (i < 0) = false := decide_eq_false h3
        obtain ⟨q, rfl⟩ : ∃ q : Nat, i = (q : Int) := ⟨i.toNat, by omega⟩
        have HLM : Hid ((l.map bval).length = l.length) := Lib.hid (List.length_map _)
        have HLL : Hid (l.length ≤ 1000) := Lib.hid (by omega)
        have HNIL : Hid (w1.ownsRow w1.heap.size 5 1 (.slice none 0 0) 0 []) := Lib.hid (World.ownsRow_nil _ _ _ _)
        have HR1 := Lib.hid (HKR.out.below HE.out)
        have HS1 := Lib.hid HE.out.size
        obtain ⟨r1, hr1⟩ : ∃ r1, decide (l = o) = r1 := ⟨_, rfl⟩
        have HR1' := Lib.hid hr1
        go_upto_region 5 with (at_builtin; refine wpList_append_row rfl _ _ 22 rfl w1.heap.size 5 i0 (.int .u8 0) 1 Tryd.underlying22 HI0.out HZ0.out HZ1.out HZ2.out rfl _ _ _ rfl HNIL.out rfl HR1.out (bval_one _) (by have := HLL.out; rw [HLM.out]; unfold maxLen; omega) (by have := HLL.out; rw [HLM.out]; omega) (Nat.le_refl _) ?_; intro v2 w2 hown2 hgrow2)
        have HE2 := Lib.hid (ext_own HE.out (own_mono HNIL.out HE.out.size) (Nat.le_refl _) hgrow2)
        rw [List.nil_append, HLM.out, Nat.zero_add] at hown2
        have HR1 : Hid (decide (l = o) = r1) := Lib.hid hr1
        clear hr1 HR1' h1 h2 h3
        by_cases hl0 : l.length = 0
        · have HL0 := Lib.hid hl0
          have hrow := Row1.of_own hown2
          obtain ⟨a3, c3, rfl, x1, x2, x3, x4⟩ := id hrow
          rw [HLM.out] at hrow ⊢
          obtain ⟨n3, hn3⟩ : ∃ n3, n3 = l.length := ⟨_, rfl⟩
          rw [← hn3] at hrow
          have hn0 : (n3 : Int) = 0 := by omega
          have HL0 : Hid (n3 = 0) := Lib.hid (by omega)
          obtain ⟨lc, hlc⟩ : ∃ lc, lc = l := ⟨_, rfl⟩
          have HC7 : Hid (Row1 w2 (.slice a3 n3 c3) (lc.map bval)) := Lib.hid (by rw [hlc]; exact hrow)
          have HLC : Hid (l = lc) := Lib.hid hlc.symm
          have HA7 : Hid (Row1 w2 (.slice a n3 cap) (l.map bval)) := Lib.hid (by rw [hn3]; exact HKR.out.below HE2.out)
          have HB7 := Lib.hid (HMR.out.below HE2.out)
          have HE7 := Lib.hid HE2.out
          rw [← hn3]
          clear hown2 hgrow2 hrow x1 x2 x3 x4 hlc hn3 HE2
          go_upto_region 7 with (fail)
          clear hn0
          have B0 : Ext w2 w2.drew := Ext.drew _
          refine wp_region_held_drew (S := fun w' => Ext w2 w') (by kernel_rfl) B0 (fun hHeld => ?_)
          refine wpAnyH_take (i := 0) (v := .slice a n3 cap) rfl (by kernel_rfl) (by kernel_rfl) (by kernel_rfl) (fun _ _ _ h => h) (yi_move _ (.slice a n3 cap) (by rfl) rfl rfl) hHeld ?_
          simp only [Act.put, List.getElem_toArray, List.getElem_cons_zero, List.getElem_cons_succ, List.setIfInBounds_toArray, List.set_cons_zero, List.set_cons_succ]
          refine wpAnyH_take (i := 1) (v := .slice a2 o.length cap2) rfl (by kernel_rfl) (by kernel_rfl) (by kernel_rfl) (fun _ _ _ h => h) (yi_move _ (.slice a2 o.length cap2) (by rfl) rfl rfl) hHeld ?_
          simp only [Act.put, List.getElem_toArray, List.getElem_cons_zero, List.getElem_cons_succ, List.setIfInBounds_toArray, List.set_cons_zero, List.set_cons_succ]
          refine wpAnyH_take (i := 3) (v := .slice a n3 cap) rfl (by kernel_rfl) (by kernel_rfl) (by kernel_rfl) (fun _ _ _ h => h) (yi_move _ (.slice a n3 cap) (by rfl) rfl rfl) hHeld ?_
          simp only [Act.put, List.getElem_toArray, List.getElem_cons_zero, List.getElem_cons_succ, List.setIfInBounds_toArray, List.set_cons_zero, List.set_cons_succ]
          refine wpAnyH_take (i := 4) (v := .string ⟨(l).toArray⟩) rfl (by kernel_rfl) (by kernel_rfl) (by kernel_rfl) (fun _ _ _ h => h) (yi_conv _ _ _ (.slice a n3 cap) _ (by rfl) rfl rfl (fun w h => run_string_row _ _ 5 Tryd.underlying22 Tryd.underlying5 Tryd.underlying9 ((HA7.out).below h))) hHeld ?_
          simp only [Act.put, List.getElem_toArray, List.getElem_cons_zero, List.getElem_cons_succ, List.setIfInBounds_toArray, List.set_cons_zero, List.set_cons_succ]
          refine wpAnyH_take (i := 5) (v := .slice a2 o.length cap2) rfl (by kernel_rfl) (by kernel_rfl) (by kernel_rfl) (fun _ _ _ h => h) (yi_move _ (.slice a2 o.length cap2) (by rfl) rfl rfl) hHeld ?_
          simp only [Act.put, List.getElem_toArray, List.getElem_cons_zero, List.getElem_cons_succ, List.setIfInBounds_toArray, List.set_cons_zero, List.set_cons_succ]
          refine wpAnyH_take (i := 6) (v := .string ⟨(o).toArray⟩) rfl (by kernel_rfl) (by kernel_rfl) (by kernel_rfl) (fun _ _ _ h => h) (yi_conv _ _ _ (.slice a2 o.length cap2) _ (by rfl) rfl rfl (fun w h => run_string_row _ _ 5 Tryd.underlying22 Tryd.underlying5 Tryd.underlying9 ((HB7.out).below h))) hHeld ?_
          simp only [Act.put, List.getElem_toArray, List.getElem_cons_zero, List.getElem_cons_succ, List.setIfInBounds_toArray, List.set_cons_zero, List.set_cons_succ]
          refine wpAnyH_take (i := 7) (v := .bool r1) rfl (by kernel_rfl) (by kernel_rfl) (by kernel_rfl) (fun _ _ _ h => h) (yi_eqt _ _ _ _ (l) (o) r1 (HR1.out) (by rfl) rfl rfl rfl) hHeld ?_
          simp only [Act.put, List.getElem_toArray, List.getElem_cons_zero, List.getElem_cons_succ, List.setIfInBounds_toArray, List.set_cons_zero, List.set_cons_succ]
          refine wpAnyH_ready (rs := [2]) (by kernel_rfl) (by simp) (AllReadyH.cons rfl (fun K hK => ?_) AllReadyH.nil)
          go_simp
          refine (MacSame_val _ _ (l) (o) r1 _ ((HA7.out).below B0) ((HB7.out).below B0) (HR1.out)).mono ?_
          rintro e m1 ⟨rfl, b1⟩
          have N1 : Ext w2 m1 := B0.trans b1
          refine hK.out _ _ N1 (fun hHeld => ?_)
          clear hK K
          try simp only [Act.put, List.getElem_toArray, List.getElem_cons_zero, List.getElem_cons_succ, List.setIfInBounds_toArray, List.set_cons_zero, List.set_cons_succ]
          refine wpAnyH_take (i := 8) (v := .bool true) rfl (by kernel_rfl) (by kernel_rfl) (by kernel_rfl) (fun _ _ _ h => h) (yi_eqb _ _ _ _ r1 r1 true (by simp) Tryd.underlying4 (by rfl) rfl rfl rfl) hHeld ?_
          simp only [Act.put, List.getElem_toArray, List.getElem_cons_zero, List.getElem_cons_succ, List.setIfInBounds_toArray, List.set_cons_zero, List.set_cons_succ]
          refine wpAnyH_take (i := 9) (v := .bool true) rfl (by kernel_rfl) (by kernel_rfl) (by kernel_rfl) (fun _ _ _ h => h) (yi_move _ (.bool true) (by rfl) rfl rfl) hHeld ?_
          simp only [Act.put, List.getElem_toArray, List.getElem_cons_zero, List.getElem_cons_succ, List.setIfInBounds_toArray, List.set_cons_zero, List.set_cons_succ]
          refine wpAnyH_take (i := 10) (v := .slice a n3 cap) rfl (by kernel_rfl) (by kernel_rfl) (by kernel_rfl) (fun _ _ _ h => h) (yi_move _ (.slice a n3 cap) (by rfl) rfl rfl) hHeld ?_
          simp only [Act.put, List.getElem_toArray, List.getElem_cons_zero, List.getElem_cons_succ, List.setIfInBounds_toArray, List.set_cons_zero, List.set_cons_succ]
          refine wpAnyH_take (i := 11) (v := .slice a3 n3 c3) rfl (by kernel_rfl) (by kernel_rfl) (by kernel_rfl) (fun _ _ _ h => h) (yi_move _ (.slice a3 n3 c3) (by rfl) rfl rfl) hHeld ?_
          simp only [Act.put, List.getElem_toArray, List.getElem_cons_zero, List.getElem_cons_succ, List.setIfInBounds_toArray, List.set_cons_zero, List.set_cons_succ]
          refine wpAnyH_take (i := 13) (v := .slice a n3 cap) rfl (by kernel_rfl) (by kernel_rfl) (by kernel_rfl) (fun _ _ _ h => h) (yi_move _ (.slice a n3 cap) (by rfl) rfl rfl) hHeld ?_
          simp only [Act.put, List.getElem_toArray, List.getElem_cons_zero, List.getElem_cons_succ, List.setIfInBounds_toArray, List.set_cons_zero, List.set_cons_succ]
          refine wpAnyH_take (i := 14) (v := .int .i64 ((n3 : Nat) : Int)) rfl (by kernel_rfl) (by kernel_rfl) (by kernel_rfl) (fun _ _ _ h => h) (yi_len _ _ _ _ _ _ Tryd.underlying22 (by rfl) rfl rfl) hHeld ?_
          simp only [Act.put, List.getElem_toArray, List.getElem_cons_zero, List.getElem_cons_succ, List.setIfInBounds_toArray, List.set_cons_zero, List.set_cons_succ]
          refine wpAnyH_take (i := 15) (v := .bool true) rfl (by kernel_rfl) (by kernel_rfl) (by kernel_rfl) (fun _ _ _ h => h) (yi_eqi .i64 _ _ _ _ _ _ true (decide_eq_true (by have := HL0.out; omega)) (by rfl) rfl rfl rfl) hHeld ?_
          simp only [Act.put, List.getElem_toArray, List.getElem_cons_zero, List.getElem_cons_succ, List.setIfInBounds_toArray, List.set_cons_zero, List.set_cons_succ]
          refine wpAnyH_ready (rs := [12]) (by kernel_rfl) (by simp) (AllReadyH.cons rfl (fun K hK => ?_) AllReadyH.nil)
          go_simp
          refine (MacSame_val _ _ (l) (lc) true _ ((HA7.out).below N1) ((HC7.out).below N1) (decide_eq_true HLC.out)).mono ?_
          rintro e m2 ⟨rfl, b2⟩
          have N2 : Ext w2 m2 := N1.trans b2
          refine hK.out _ _ N2 (fun hHeld => ?_)
          clear hK K
          try simp only [Act.put, List.getElem_toArray, List.getElem_cons_zero, List.getElem_cons_succ, List.setIfInBounds_toArray, List.set_cons_zero, List.set_cons_succ]
          refine wpAnyH_take (i := 16) (v := .bool true) rfl (by kernel_rfl) (by kernel_rfl) (by kernel_rfl) (fun _ _ _ h => h) (yi_move _ (.bool true) (by rfl) rfl rfl) hHeld ?_
          simp only [Act.put, List.getElem_toArray, List.getElem_cons_zero, List.getElem_cons_succ, List.setIfInBounds_toArray, List.set_cons_zero, List.set_cons_succ]
          refine wpAnyH_take (i := 17) (v := undef) rfl (by kernel_rfl) (by kernel_rfl) (by kernel_rfl) (fun _ _ _ h => h) (yi_skip (by rfl)) hHeld ?_
          simp only [Act.put, List.getElem_toArray, List.getElem_cons_zero, List.getElem_cons_succ, List.setIfInBounds_toArray, List.set_cons_zero, List.set_cons_succ]
          refine wpAnyH_take (i := 18) (v := undef) rfl (by kernel_rfl) (by kernel_rfl) (by kernel_rfl) (fun _ _ _ h => h) (yi_skip (by rfl)) hHeld ?_
          simp only [Act.put, List.getElem_toArray, List.getElem_cons_zero, List.getElem_cons_succ, List.setIfInBounds_toArray, List.set_cons_zero, List.set_cons_succ]
          refine wpAnyH_take (i := 19) (v := .bool true) rfl (by kernel_rfl) (by kernel_rfl) (by kernel_rfl) (fun _ _ _ h => h) (yi_pick _ _ _ true _ (by rfl) rfl rfl rfl) hHeld ?_
          simp only [Act.put, List.getElem_toArray, List.getElem_cons_zero, List.getElem_cons_succ, List.setIfInBounds_toArray, List.set_cons_zero, List.set_cons_succ]
          refine wpAnyH_take (i := 20) (v := .bool true) rfl (by kernel_rfl) (by kernel_rfl) (by kernel_rfl) (fun _ _ _ h => h) (yi_eqb _ _ _ _ true true true (by simp) Tryd.underlying4 (by rfl) rfl rfl rfl) hHeld ?_
          simp only [Act.put, List.getElem_toArray, List.getElem_cons_zero, List.getElem_cons_succ, List.setIfInBounds_toArray, List.set_cons_zero, List.set_cons_succ]
          refine wpAnyH_take (i := 21) (v := .bool true) rfl (by kernel_rfl) (by kernel_rfl) (by kernel_rfl) (fun _ _ _ h => h) (yi_pick _ _ _ true _ (by rfl) rfl rfl rfl) hHeld ?_
          simp only [Act.put, List.getElem_toArray, List.getElem_cons_zero, List.getElem_cons_succ, List.setIfInBounds_toArray, List.set_cons_zero, List.set_cons_succ]
          refine wpAnyH_take (i := 22) (v := .bool true) rfl (by kernel_rfl) (by kernel_rfl) (by kernel_rfl) (fun _ _ _ h => h) (yi_move _ (.bool true) (by rfl) rfl rfl) hHeld ?_
          simp only [Act.put, List.getElem_toArray, List.getElem_cons_zero, List.getElem_cons_succ, List.setIfInBounds_toArray, List.set_cons_zero, List.set_cons_succ]
          refine wpAnyH_take (i := 23) (v := .slice a n3 cap) rfl (by kernel_rfl) (by kernel_rfl) (by kernel_rfl) (fun _ _ _ h => h) (yi_move _ (.slice a n3 cap) (by rfl) rfl rfl) hHeld ?_
          simp only [Act.put, List.getElem_toArray, List.getElem_cons_zero, List.getElem_cons_succ, List.setIfInBounds_toArray, List.set_cons_zero, List.set_cons_succ]
          refine wpAnyH_take (i := 24) (v := .slice a n3 cap) rfl (by kernel_rfl) (by kernel_rfl) (by kernel_rfl) (fun _ _ _ h => h) (yi_move _ (.slice a n3 cap) (by rfl) rfl rfl) hHeld ?_
          simp only [Act.put, List.getElem_toArray, List.getElem_cons_zero, List.getElem_cons_succ, List.setIfInBounds_toArray, List.set_cons_zero, List.set_cons_succ]
          refine wpAnyH_ready (rs := [25]) (by kernel_rfl) (by simp) (AllReadyH.cons rfl (fun K hK => ?_) AllReadyH.nil)
          refine step_wp (by rfl) ?_
          refine wp_append_row _ _ 22 rfl (m2).heap.size 5 i0 (.int .u8 0) 1 Tryd.underlying22 HI0.out HZ0.out HZ1.out HZ2.out rfl (.slice none 0 0) 0 [] rfl (World.ownsRow_nil _ _ _ _) rfl ((HA7.out).below N2) (bval_one _) (by have := HLL.out; rw [List.length_map]; unfold maxLen; omega) (by have := HLL.out; rw [List.length_map]; omega) (Nat.le_refl _) ?_
          intro v3 m3 ho3 hg3
          have b3 : Ext m2 m3 := ext_own (Ext.refl _) (World.ownsRow_nil _ _ 5 _) (Nat.le_refl _) hg3
          rw [List.nil_append] at ho3
          have r3 : Row1 m3 v3 ((l).map bval) := Row1.of_own ho3
          have N3 : Ext w2 m3 := N2.trans b3
          refine hK.out _ _ N3 (fun hHeld => ?_)
          clear hK K
          try simp only [Act.put, List.getElem_toArray, List.getElem_cons_zero, List.getElem_cons_succ, List.setIfInBounds_toArray, List.set_cons_zero, List.set_cons_succ]
          refine wpAnyH_ready (rs := [26]) (by kernel_rfl) (by simp) (AllReadyH.cons rfl (fun K hK => ?_) AllReadyH.nil)
          go_simp
          refine (MacSame_val _ _ (l) (l) true _ ((HA7.out).below N3) r3 (decide_eq_true rfl)).mono ?_
          rintro e m4 ⟨rfl, b4⟩
          have r3 := r3.below b4
          have N4 : Ext w2 m4 := N3.trans b4
          refine hK.out _ _ N4 (fun hHeld => ?_)
          clear hK K
          try simp only [Act.put, List.getElem_toArray, List.getElem_cons_zero, List.getElem_cons_succ, List.setIfInBounds_toArray, List.set_cons_zero, List.set_cons_succ]
          refine wpAnyH_take (i := 27) (v := .bool true) rfl (by kernel_rfl) (by kernel_rfl) (by kernel_rfl) (fun _ _ _ h => h) (yi_pick _ _ _ true _ (by rfl) rfl rfl rfl) hHeld ?_
          simp only [Act.put, List.getElem_toArray, List.getElem_cons_zero, List.getElem_cons_succ, List.setIfInBounds_toArray, List.set_cons_zero, List.set_cons_succ]
          refine wpAnyH_take (i := 28) (v := .bool true) rfl (by kernel_rfl) (by kernel_rfl) (by kernel_rfl) (fun _ _ _ h => h) (yi_move _ (.bool true) (by rfl) rfl rfl) hHeld ?_
          simp only [Act.put, List.getElem_toArray, List.getElem_cons_zero, List.getElem_cons_succ, List.setIfInBounds_toArray, List.set_cons_zero, List.set_cons_succ]
          refine wpAnyH_take (i := 29) (v := .slice a n3 cap) rfl (by kernel_rfl) (by kernel_rfl) (by kernel_rfl) (fun _ _ _ h => h) (yi_move _ (.slice a n3 cap) (by rfl) rfl rfl) hHeld ?_
          simp only [Act.put, List.getElem_toArray, List.getElem_cons_zero, List.getElem_cons_succ, List.setIfInBounds_toArray, List.set_cons_zero, List.set_cons_succ]
          refine wpAnyH_take (i := 31) (v := .slice a n3 cap) rfl (by kernel_rfl) (by kernel_rfl) (by kernel_rfl) (fun _ _ _ h => h) (yi_move _ (.slice a n3 cap) (by rfl) rfl rfl) hHeld ?_
          simp only [Act.put, List.getElem_toArray, List.getElem_cons_zero, List.getElem_cons_succ, List.setIfInBounds_toArray, List.set_cons_zero, List.set_cons_succ]
          refine wpAnyH_ready (rs := [30]) (by kernel_rfl) (by simp) (AllReadyH.cons rfl (fun K hK => ?_) AllReadyH.nil)
          refine step_wp (by rfl) ?_
          refine wp_buildSlice_d (some 79) _ _ _ _ rfl rfl #[.int .u8 0] i0 (.int .u8 0) Tryd.underlying22 HI0.out HZ0.out (by rw [HZ1.out]; decide) (by rw [HZ1.out]; decide) (by rw [HZ1.out]; kernel_rfl) ?_
          obtain ⟨m5, hm5⟩ : ∃ wNew, wNew = World.alloc m4 (.cells #[.int .u8 0] 5) := ⟨_, rfl⟩
          rw [← hm5]
          have b5 : Ext m4 m5 := by rw [hm5]; exact Ext.alloc _ _
          obtain ⟨g5, hg5⟩ : ∃ gNew, gNew = (m4).heap.size := ⟨_, rfl⟩
          rw [← hg5]
          have r3 := r3.below b5
          have r5 : Row1 m5 (.slice (some ⟨g5, 0, none⟩) 1 1) [.int .u8 0] := by rw [hm5, hg5]; exact Row1.made _ _ _ _ _ _ rfl rfl rfl (by unfold maxLen; omega)
          have o5 : World.ownsRow m5 (w2).heap.size 5 1 (.slice (some ⟨g5, 0, none⟩) 1 1) 1 [.int .u8 0] := by rw [hm5, hg5]; exact own_made _ _ _ _ _ _ rfl rfl (by unfold maxLen; omega) N4.size
          clear hm5 hg5
          have N5 : Ext w2 m5 := N4.trans b5
          refine hK.out _ _ N5 (fun hHeld => ?_)
          clear hK K
          try simp only [Act.put, List.getElem_toArray, List.getElem_cons_zero, List.getElem_cons_succ, List.setIfInBounds_toArray, List.set_cons_zero, List.set_cons_succ]
          refine wpAnyH_ready (rs := [32]) (by kernel_rfl) (by simp) (AllReadyH.cons rfl (fun K hK => ?_) AllReadyH.nil)
          refine step_wp (by rfl) ?_
          refine wp_append_row _ _ 22 rfl (w2).heap.size 5 i0 (.int .u8 0) 1 Tryd.underlying22 HI0.out HZ0.out HZ1.out HZ2.out rfl (.slice (some ⟨g5, 0, none⟩) 1 1) 1 _ rfl o5 rfl ((HA7.out).below N5) (bval_one _) (by have := HLL.out; rw [List.length_map]; unfold maxLen; omega) (by have := HLL.out; rw [List.length_map]; omega) N5.size ?_
          intro v6 m6 ho6 hg6
          have N6 : Ext w2 m6 := ext_own N5 o5 (Nat.le_refl _) hg6
          have r6 : Row1 m6 v6 (((0 :: l)).map bval) := Row1.of_own ho6
          refine hK.out _ _ N6 (fun hHeld => ?_)
          clear hK K
          try simp only [Act.put, List.getElem_toArray, List.getElem_cons_zero, List.getElem_cons_succ, List.setIfInBounds_toArray, List.set_cons_zero, List.set_cons_succ]
          refine wpAnyH_ready (rs := [33]) (by kernel_rfl) (by simp) (AllReadyH.cons rfl (fun K hK => ?_) AllReadyH.nil)
          go_simp
          refine (MacSame_val _ _ (l) (0 :: l) false _ ((HA7.out).below N6) r6 (decide_eq_false (fun h => by have := congrArg List.length h; simp at this))).mono ?_
          rintro e m7 ⟨rfl, b7⟩
          have r6 := r6.below b7
          have N7 : Ext w2 m7 := N6.trans b7
          refine hK.out _ _ N7 (fun hHeld => ?_)
          clear hK K
          try simp only [Act.put, List.getElem_toArray, List.getElem_cons_zero, List.getElem_cons_succ, List.setIfInBounds_toArray, List.set_cons_zero, List.set_cons_succ]
          refine wpAnyH_take (i := 34) (v := .bool true) rfl (by kernel_rfl) (by kernel_rfl) (by kernel_rfl) (fun _ _ _ h => h) (yi_not _ _ false (by rfl) rfl rfl) hHeld ?_
          simp only [Act.put, List.getElem_toArray, List.getElem_cons_zero, List.getElem_cons_succ, List.setIfInBounds_toArray, List.set_cons_zero, List.set_cons_succ]
          refine wpAnyH_take (i := 35) (v := .bool true) rfl (by kernel_rfl) (by kernel_rfl) (by kernel_rfl) (fun _ _ _ h => h) (yi_pick _ _ _ true _ (by rfl) rfl rfl rfl) hHeld ?_
          simp only [Act.put, List.getElem_toArray, List.getElem_cons_zero, List.getElem_cons_succ, List.setIfInBounds_toArray, List.set_cons_zero, List.set_cons_succ]
          refine wpAnyH_ready (rs := [36]) (by kernel_rfl) (by simp) (AllReadyH.cons rfl (fun K hK => ?_) AllReadyH.nil)
          go_simp
          refine hK.out _ _ N7 (fun hHeld => ?_)
          clear hK K
          try simp only [Act.put, List.getElem_toArray, List.getElem_cons_zero, List.getElem_cons_succ, List.setIfInBounds_toArray, List.set_cons_zero, List.set_cons_succ]
          refine wpAnyH_done (by kernel_rfl) ?_ _
          go_wp2_with fail
          go_ret
          exact ⟨rfl, HE7.out.trans N7⟩
        · have HL0 : Hid (¬ l.length = 0) := Lib.hid hl0
          obtain ⟨p, hp⟩ : ∃ p : Nat, p = q % l.length := ⟨_, rfl⟩
          have hpl : p < l.length := by rw [hp]; exact Nat.mod_lt _ (by omega)
          have hp1 : (q : Int) % (l.length : Int) = (p : Int) := by rw [hp]; simp
          have hb1 : (0 : Int) ≤ (q : Int) % (l.length : Int) := by omega
          have hb2 : (q : Int) % (l.length : Int) < (l.length : Int) := by omega
          have HTN : Hid (q % l.length = p) := Lib.hid hp.symm
          have HP1 := Lib.hid hp1
          clear hp1
          have l0 : (0 : Int) < (l.length : Int) := by omega
          have q0 : (0 : Int) ≤ (q : Int) := Int.natCast_nonneg _
          have p0 : (0 : Int) ≤ (p : Int) := Int.natCast_nonneg _
          have l5 : (l.length : Int) ≤ 1000 := by have := HLL.out; omega
          have pl : (p : Int) < (l.length : Int) := by omega
          obtain ⟨g, cp, cur, rfl, hg, hB, hcp, hcm, htk, hcl⟩ := own_form hown2 (by omega)
          have hg2 : w.heap.size ≤ g := by have := HS1.out; omega
          obtain ⟨x, hx⟩ : ∃ x, x = l.getD p 0 := ⟨_, rfl⟩
          have hcp2 : cur[p]? = some (bval x) := by
            have h := congrArg (fun z : List Value => z[p]?) htk
            simp only [List.getElem?_take, if_pos hpl] at h
            rw [h, bval_get hpl, hx]
            rfl
          have c0 : w2.cell? ⟨g, p, none⟩ = some (.int .u8 (x.toNat : Int)) := by rw [hB.cell, hcp2]; rfl
          have f0 := hB.free p
          rw [← HTN.out] at c0 f0
          have hxr := xor_u8 x y
          have HBS := Lib.hid (hB.set p (bval (x ^^^ y)))
          have HTS : Hid ((cur.set p (bval (x ^^^ y))).take l.length = (l.set p (x ^^^ y)).map bval) := Lib.hid (by rw [List.take_set, htk, List.map_set])
          obtain ⟨r2, hr2⟩ : ∃ r2, decide (((y.toNat : Nat) : Int) = 0) = r2 := ⟨_, rfl⟩
          have HY2 := Lib.hid hr2
          have HR2 : Hid (decide (l = l.set p (x ^^^ y)) = r2) := Lib.hid (by
            rw [← hr2]
            refine decide_eq_decide.2 ?_
            rw [set_same_iff l p hpl, ← hx, xor_zero_iff]
            omega)
          have hHE := HE2.out
          have hmx : cp ≤ maxLen := hcm
          unfold maxLen at hmx
          generalize hz : x ^^^ y = z at *
          clear hown2 hgrow2 htk hx hcp2 hr2
          go_upto_region 6 with (fail)
          go_region
          go_upto_region 7 with (fail)
          rw [HTN.out]
          change Code.wp _ _ _ _ (w2.setCell ⟨g, p, none⟩ (bval z)).drew
          have HE7 : Hid (Ext w (w2.setCell ⟨g, p, none⟩ (bval z)).drew) := Lib.hid ((show Ext w (w2.setCell ⟨g, p, none⟩ (bval z)) from Below.setCell hHE hg2 _).trans (Ext.drew _))
          have HC7 : Hid (Row1 (w2.setCell ⟨g, p, none⟩ (bval z)).drew (.slice (some ⟨g, 0, none⟩) l.length cp) ((l.set p z).map bval)) := Lib.hid (Row1.drew (by
            have e1 : ((l.set p z).map bval).length = l.length := by simp
            refine ⟨_, _, by rw [e1], by rw [e1]; exact hcp, hcm, (fun e => by cases e), fun _ => ⟨g, 0, rfl, HBS.out.lt, fun j hj => ?_⟩⟩
            rw [e1] at hj
            rw [Nat.zero_add, HBS.out.cell, ← HTS.out, List.getElem?_take, if_pos hj]))
          generalize (w2.setCell ⟨g, p, none⟩ (bval z)).drew = w7 at *
          have HA7 := Lib.hid (HKR.out.below HE7.out)
          have HB7 := Lib.hid (HMR.out.below HE7.out)
          generalize l.set p z = lc at *
          clear hB c0 f0 hxr HBS HTS hHE hcm hcl HE2 hz
          have B0 : Ext w7 w7.drew := Ext.drew _
          refine wp_region_held_drew (S := fun w' => Ext w7 w') (by kernel_rfl) B0 (fun hHeld => ?_)
          refine wpAnyH_take (i := 0) (v := .slice a l.length cap) rfl (by kernel_rfl) (by kernel_rfl) (by kernel_rfl) (fun _ _ _ h => h) (yi_move _ (.slice a l.length cap) (by rfl) rfl rfl) hHeld ?_
          simp only [Act.put, List.getElem_toArray, List.getElem_cons_zero, List.getElem_cons_succ, List.setIfInBounds_toArray, List.set_cons_zero, List.set_cons_succ]
          refine wpAnyH_take (i := 1) (v := .slice a2 o.length cap2) rfl (by kernel_rfl) (by kernel_rfl) (by kernel_rfl) (fun _ _ _ h => h) (yi_move _ (.slice a2 o.length cap2) (by rfl) rfl rfl) hHeld ?_
          simp only [Act.put, List.getElem_toArray, List.getElem_cons_zero, List.getElem_cons_succ, List.setIfInBounds_toArray, List.set_cons_zero, List.set_cons_succ]
          refine wpAnyH_take (i := 3) (v := .slice a l.length cap) rfl (by kernel_rfl) (by kernel_rfl) (by kernel_rfl) (fun _ _ _ h => h) (yi_move _ (.slice a l.length cap) (by rfl) rfl rfl) hHeld ?_
          simp only [Act.put, List.getElem_toArray, List.getElem_cons_zero, List.getElem_cons_succ, List.setIfInBounds_toArray, List.set_cons_zero, List.set_cons_succ]
          refine wpAnyH_take (i := 4) (v := .string ⟨(l).toArray⟩) rfl (by kernel_rfl) (by kernel_rfl) (by kernel_rfl) (fun _ _ _ h => h) (yi_conv _ _ _ (.slice a l.length cap) _ (by rfl) rfl rfl (fun w h => run_string_row _ _ 5 Tryd.underlying22 Tryd.underlying5 Tryd.underlying9 ((HA7.out).below h))) hHeld ?_
          simp only [Act.put, List.getElem_toArray, List.getElem_cons_zero, List.getElem_cons_succ, List.setIfInBounds_toArray, List.set_cons_zero, List.set_cons_succ]
          refine wpAnyH_take (i := 5) (v := .slice a2 o.length cap2) rfl (by kernel_rfl) (by kernel_rfl) (by kernel_rfl) (fun _ _ _ h => h) (yi_move _ (.slice a2 o.length cap2) (by rfl) rfl rfl) hHeld ?_
          simp only [Act.put, List.getElem_toArray, List.getElem_cons_zero, List.getElem_cons_succ, List.setIfInBounds_toArray, List.set_cons_zero, List.set_cons_succ]
          refine wpAnyH_take (i := 6) (v := .string ⟨(o).toArray⟩) rfl (by kernel_rfl) (by kernel_rfl) (by kernel_rfl) (fun _ _ _ h => h) (yi_conv _ _ _ (.slice a2 o.length cap2) _ (by rfl) rfl rfl (fun w h => run_string_row _ _ 5 Tryd.underlying22 Tryd.underlying5 Tryd.underlying9 ((HB7.out).below h))) hHeld ?_
          simp only [Act.put, List.getElem_toArray, List.getElem_cons_zero, List.getElem_cons_succ, List.setIfInBounds_toArray, List.set_cons_zero, List.set_cons_succ]
          refine wpAnyH_take (i := 7) (v := .bool r1) rfl (by kernel_rfl) (by kernel_rfl) (by kernel_rfl) (fun _ _ _ h => h) (yi_eqt _ _ _ _ (l) (o) r1 (HR1.out) (by rfl) rfl rfl rfl) hHeld ?_
          simp only [Act.put, List.getElem_toArray, List.getElem_cons_zero, List.getElem_cons_succ, List.setIfInBounds_toArray, List.set_cons_zero, List.set_cons_succ]
          refine wpAnyH_ready (rs := [2]) (by kernel_rfl) (by simp) (AllReadyH.cons rfl (fun K hK => ?_) AllReadyH.nil)
          go_simp
          refine (MacSame_val _ _ (l) (o) r1 _ ((HA7.out).below B0) ((HB7.out).below B0) (HR1.out)).mono ?_
          rintro e m1 ⟨rfl, b1⟩
          have N1 : Ext w7 m1 := B0.trans b1
          refine hK.out _ _ N1 (fun hHeld => ?_)
          clear hK K
          try simp only [Act.put, List.getElem_toArray, List.getElem_cons_zero, List.getElem_cons_succ, List.setIfInBounds_toArray, List.set_cons_zero, List.set_cons_succ]
          refine wpAnyH_take (i := 8) (v := .bool true) rfl (by kernel_rfl) (by kernel_rfl) (by kernel_rfl) (fun _ _ _ h => h) (yi_eqb _ _ _ _ r1 r1 true (by simp) Tryd.underlying4 (by rfl) rfl rfl rfl) hHeld ?_
          simp only [Act.put, List.getElem_toArray, List.getElem_cons_zero, List.getElem_cons_succ, List.setIfInBounds_toArray, List.set_cons_zero, List.set_cons_succ]
          refine wpAnyH_take (i := 9) (v := .bool true) rfl (by kernel_rfl) (by kernel_rfl) (by kernel_rfl) (fun _ _ _ h => h) (yi_move _ (.bool true) (by rfl) rfl rfl) hHeld ?_
          simp only [Act.put, List.getElem_toArray, List.getElem_cons_zero, List.getElem_cons_succ, List.setIfInBounds_toArray, List.set_cons_zero, List.set_cons_succ]
          refine wpAnyH_take (i := 10) (v := .slice a l.length cap) rfl (by kernel_rfl) (by kernel_rfl) (by kernel_rfl) (fun _ _ _ h => h) (yi_move _ (.slice a l.length cap) (by rfl) rfl rfl) hHeld ?_
          simp only [Act.put, List.getElem_toArray, List.getElem_cons_zero, List.getElem_cons_succ, List.setIfInBounds_toArray, List.set_cons_zero, List.set_cons_succ]
          refine wpAnyH_take (i := 11) (v := .slice (some ⟨g, 0, none⟩) l.length cp) rfl (by kernel_rfl) (by kernel_rfl) (by kernel_rfl) (fun _ _ _ h => h) (yi_move _ (.slice (some ⟨g, 0, none⟩) l.length cp) (by rfl) rfl rfl) hHeld ?_
          simp only [Act.put, List.getElem_toArray, List.getElem_cons_zero, List.getElem_cons_succ, List.setIfInBounds_toArray, List.set_cons_zero, List.set_cons_succ]
          refine wpAnyH_take (i := 13) (v := .slice a l.length cap) rfl (by kernel_rfl) (by kernel_rfl) (by kernel_rfl) (fun _ _ _ h => h) (yi_move _ (.slice a l.length cap) (by rfl) rfl rfl) hHeld ?_
          simp only [Act.put, List.getElem_toArray, List.getElem_cons_zero, List.getElem_cons_succ, List.setIfInBounds_toArray, List.set_cons_zero, List.set_cons_succ]
          refine wpAnyH_take (i := 14) (v := .int .i64 ((l.length : Nat) : Int)) rfl (by kernel_rfl) (by kernel_rfl) (by kernel_rfl) (fun _ _ _ h => h) (yi_len _ _ _ _ _ _ Tryd.underlying22 (by rfl) rfl rfl) hHeld ?_
          simp only [Act.put, List.getElem_toArray, List.getElem_cons_zero, List.getElem_cons_succ, List.setIfInBounds_toArray, List.set_cons_zero, List.set_cons_succ]
          refine wpAnyH_take (i := 15) (v := .bool false) rfl (by kernel_rfl) (by kernel_rfl) (by kernel_rfl) (fun _ _ _ h => h) (yi_eqi .i64 _ _ _ _ _ _ false (decide_eq_false (by have := HL0.out; omega)) (by rfl) rfl rfl rfl) hHeld ?_
          simp only [Act.put, List.getElem_toArray, List.getElem_cons_zero, List.getElem_cons_succ, List.setIfInBounds_toArray, List.set_cons_zero, List.set_cons_succ]
          refine wpAnyH_ready (rs := [12]) (by kernel_rfl) (by simp) (AllReadyH.cons rfl (fun K hK => ?_) AllReadyH.nil)
          go_simp
          refine (MacSame_val _ _ (l) (lc) r2 _ ((HA7.out).below N1) ((HC7.out).below N1) (HR2.out)).mono ?_
          rintro e m2 ⟨rfl, b2⟩
          have N2 : Ext w7 m2 := N1.trans b2
          refine hK.out _ _ N2 (fun hHeld => ?_)
          clear hK K
          try simp only [Act.put, List.getElem_toArray, List.getElem_cons_zero, List.getElem_cons_succ, List.setIfInBounds_toArray, List.set_cons_zero, List.set_cons_succ]
          refine wpAnyH_take (i := 16) (v := .bool false) rfl (by kernel_rfl) (by kernel_rfl) (by kernel_rfl) (fun _ _ _ h => h) (yi_move _ (.bool false) (by rfl) rfl rfl) hHeld ?_
          simp only [Act.put, List.getElem_toArray, List.getElem_cons_zero, List.getElem_cons_succ, List.setIfInBounds_toArray, List.set_cons_zero, List.set_cons_succ]
          refine wpAnyH_take (i := 17) (v := .int .u8 ((y.toNat : Nat) : Int)) rfl (by kernel_rfl) (by kernel_rfl) (by kernel_rfl) (fun _ _ _ h => h) (yi_move _ (.int .u8 ((y.toNat : Nat) : Int)) (by rfl) rfl rfl) hHeld ?_
          simp only [Act.put, List.getElem_toArray, List.getElem_cons_zero, List.getElem_cons_succ, List.setIfInBounds_toArray, List.set_cons_zero, List.set_cons_succ]
          refine wpAnyH_take (i := 18) (v := .bool r2) rfl (by kernel_rfl) (by kernel_rfl) (by kernel_rfl) (fun _ _ _ h => h) (yi_eqi .u8 _ _ _ _ _ _ r2 (HY2.out) (by rfl) rfl rfl rfl) hHeld ?_
          simp only [Act.put, List.getElem_toArray, List.getElem_cons_zero, List.getElem_cons_succ, List.setIfInBounds_toArray, List.set_cons_zero, List.set_cons_succ]
          refine wpAnyH_take (i := 19) (v := .bool r2) rfl (by kernel_rfl) (by kernel_rfl) (by kernel_rfl) (fun _ _ _ h => h) (yi_pick _ _ _ false _ (by rfl) rfl rfl rfl) hHeld ?_
          simp only [Act.put, List.getElem_toArray, List.getElem_cons_zero, List.getElem_cons_succ, List.setIfInBounds_toArray, List.set_cons_zero, List.set_cons_succ]
          refine wpAnyH_take (i := 20) (v := .bool true) rfl (by kernel_rfl) (by kernel_rfl) (by kernel_rfl) (fun _ _ _ h => h) (yi_eqb _ _ _ _ r2 r2 true (by simp) Tryd.underlying4 (by rfl) rfl rfl rfl) hHeld ?_
          simp only [Act.put, List.getElem_toArray, List.getElem_cons_zero, List.getElem_cons_succ, List.setIfInBounds_toArray, List.set_cons_zero, List.set_cons_succ]
          refine wpAnyH_take (i := 21) (v := .bool true) rfl (by kernel_rfl) (by kernel_rfl) (by kernel_rfl) (fun _ _ _ h => h) (yi_pick _ _ _ true _ (by rfl) rfl rfl rfl) hHeld ?_
          simp only [Act.put, List.getElem_toArray, List.getElem_cons_zero, List.getElem_cons_succ, List.setIfInBounds_toArray, List.set_cons_zero, List.set_cons_succ]
          refine wpAnyH_take (i := 22) (v := .bool true) rfl (by kernel_rfl) (by kernel_rfl) (by kernel_rfl) (fun _ _ _ h => h) (yi_move _ (.bool true) (by rfl) rfl rfl) hHeld ?_
          simp only [Act.put, List.getElem_toArray, List.getElem_cons_zero, List.getElem_cons_succ, List.setIfInBounds_toArray, List.set_cons_zero, List.set_cons_succ]
          refine wpAnyH_take (i := 23) (v := .slice a l.length cap) rfl (by kernel_rfl) (by kernel_rfl) (by kernel_rfl) (fun _ _ _ h => h) (yi_move _ (.slice a l.length cap) (by rfl) rfl rfl) hHeld ?_
          simp only [Act.put, List.getElem_toArray, List.getElem_cons_zero, List.getElem_cons_succ, List.setIfInBounds_toArray, List.set_cons_zero, List.set_cons_succ]
          refine wpAnyH_take (i := 24) (v := .slice a l.length cap) rfl (by kernel_rfl) (by kernel_rfl) (by kernel_rfl) (fun _ _ _ h => h) (yi_move _ (.slice a l.length cap) (by rfl) rfl rfl) hHeld ?_
          simp only [Act.put, List.getElem_toArray, List.getElem_cons_zero, List.getElem_cons_succ, List.setIfInBounds_toArray, List.set_cons_zero, List.set_cons_succ]
          refine wpAnyH_ready (rs := [25]) (by kernel_rfl) (by simp) (AllReadyH.cons rfl (fun K hK => ?_) AllReadyH.nil)
          refine step_wp (by rfl) ?_
          refine wp_append_row _ _ 22 rfl (m2).heap.size 5 i0 (.int .u8 0) 1 Tryd.underlying22 HI0.out HZ0.out HZ1.out HZ2.out rfl (.slice none 0 0) 0 [] rfl (World.ownsRow_nil _ _ _ _) rfl ((HA7.out).below N2) (bval_one _) (by have := HLL.out; rw [List.length_map]; unfold maxLen; omega) (by have := HLL.out; rw [List.length_map]; omega) (Nat.le_refl _) ?_
          intro v3 m3 ho3 hg3
          have b3 : Ext m2 m3 := ext_own (Ext.refl _) (World.ownsRow_nil _ _ 5 _) (Nat.le_refl _) hg3
          rw [List.nil_append] at ho3
          have r3 : Row1 m3 v3 ((l).map bval) := Row1.of_own ho3
          have N3 : Ext w7 m3 := N2.trans b3
          refine hK.out _ _ N3 (fun hHeld => ?_)
          clear hK K
          try simp only [Act.put, List.getElem_toArray, List.getElem_cons_zero, List.getElem_cons_succ, List.setIfInBounds_toArray, List.set_cons_zero, List.set_cons_succ]
          refine wpAnyH_ready (rs := [26]) (by kernel_rfl) (by simp) (AllReadyH.cons rfl (fun K hK => ?_) AllReadyH.nil)
          go_simp
          refine (MacSame_val _ _ (l) (l) true _ ((HA7.out).below N3) r3 (decide_eq_true rfl)).mono ?_
          rintro e m4 ⟨rfl, b4⟩
          have r3 := r3.below b4
          have N4 : Ext w7 m4 := N3.trans b4
          refine hK.out _ _ N4 (fun hHeld => ?_)
          clear hK K
          try simp only [Act.put, List.getElem_toArray, List.getElem_cons_zero, List.getElem_cons_succ, List.setIfInBounds_toArray, List.set_cons_zero, List.set_cons_succ]
          refine wpAnyH_take (i := 27) (v := .bool true) rfl (by kernel_rfl) (by kernel_rfl) (by kernel_rfl) (fun _ _ _ h => h) (yi_pick _ _ _ true _ (by rfl) rfl rfl rfl) hHeld ?_
          simp only [Act.put, List.getElem_toArray, List.getElem_cons_zero, List.getElem_cons_succ, List.setIfInBounds_toArray, List.set_cons_zero, List.set_cons_succ]
          refine wpAnyH_take (i := 28) (v := .bool true) rfl (by kernel_rfl) (by kernel_rfl) (by kernel_rfl) (fun _ _ _ h => h) (yi_move _ (.bool true) (by rfl) rfl rfl) hHeld ?_
          simp only [Act.put, List.getElem_toArray, List.getElem_cons_zero, List.getElem_cons_succ, List.setIfInBounds_toArray, List.set_cons_zero, List.set_cons_succ]
          refine wpAnyH_take (i := 29) (v := .slice a l.length cap) rfl (by kernel_rfl) (by kernel_rfl) (by kernel_rfl) (fun _ _ _ h => h) (yi_move _ (.slice a l.length cap) (by rfl) rfl rfl) hHeld ?_
          simp only [Act.put, List.getElem_toArray, List.getElem_cons_zero, List.getElem_cons_succ, List.setIfInBounds_toArray, List.set_cons_zero, List.set_cons_succ]
          refine wpAnyH_take (i := 31) (v := .slice a l.length cap) rfl (by kernel_rfl) (by kernel_rfl) (by kernel_rfl) (fun _ _ _ h => h) (yi_move _ (.slice a l.length cap) (by rfl) rfl rfl) hHeld ?_
          simp only [Act.put, List.getElem_toArray, List.getElem_cons_zero, List.getElem_cons_succ, List.setIfInBounds_toArray, List.set_cons_zero, List.set_cons_succ]
          refine wpAnyH_ready (rs := [30]) (by kernel_rfl) (by simp) (AllReadyH.cons rfl (fun K hK => ?_) AllReadyH.nil)
          refine step_wp (by rfl) ?_
          refine wp_buildSlice_d (some 79) _ _ _ _ rfl rfl #[.int .u8 0] i0 (.int .u8 0) Tryd.underlying22 HI0.out HZ0.out (by rw [HZ1.out]; decide) (by rw [HZ1.out]; decide) (by rw [HZ1.out]; kernel_rfl) ?_
          obtain ⟨m5, hm5⟩ : ∃ wNew, wNew = World.alloc m4 (.cells #[.int .u8 0] 5) := ⟨_, rfl⟩
          rw [← hm5]
          have b5 : Ext m4 m5 := by rw [hm5]; exact Ext.alloc _ _
          obtain ⟨g5, hg5⟩ : ∃ gNew, gNew = (m4).heap.size := ⟨_, rfl⟩
          rw [← hg5]
          have r3 := r3.below b5
          have r5 : Row1 m5 (.slice (some ⟨g5, 0, none⟩) 1 1) [.int .u8 0] := by rw [hm5, hg5]; exact Row1.made _ _ _ _ _ _ rfl rfl rfl (by unfold maxLen; omega)
          have o5 : World.ownsRow m5 (w7).heap.size 5 1 (.slice (some ⟨g5, 0, none⟩) 1 1) 1 [.int .u8 0] := by rw [hm5, hg5]; exact own_made _ _ _ _ _ _ rfl rfl (by unfold maxLen; omega) N4.size
          clear hm5 hg5
          have N5 : Ext w7 m5 := N4.trans b5
          refine hK.out _ _ N5 (fun hHeld => ?_)
          clear hK K
          try simp only [Act.put, List.getElem_toArray, List.getElem_cons_zero, List.getElem_cons_succ, List.setIfInBounds_toArray, List.set_cons_zero, List.set_cons_succ]
          refine wpAnyH_ready (rs := [32]) (by kernel_rfl) (by simp) (AllReadyH.cons rfl (fun K hK => ?_) AllReadyH.nil)
          refine step_wp (by rfl) ?_
          refine wp_append_row _ _ 22 rfl (w7).heap.size 5 i0 (.int .u8 0) 1 Tryd.underlying22 HI0.out HZ0.out HZ1.out HZ2.out rfl (.slice (some ⟨g5, 0, none⟩) 1 1) 1 _ rfl o5 rfl ((HA7.out).below N5) (bval_one _) (by have := HLL.out; rw [List.length_map]; unfold maxLen; omega) (by have := HLL.out; rw [List.length_map]; omega) N5.size ?_
          intro v6 m6 ho6 hg6
          have N6 : Ext w7 m6 := ext_own N5 o5 (Nat.le_refl _) hg6
          have r6 : Row1 m6 v6 (((0 :: l)).map bval) := Row1.of_own ho6
          refine hK.out _ _ N6 (fun hHeld => ?_)
          clear hK K
          try simp only [Act.put, List.getElem_toArray, List.getElem_cons_zero, List.getElem_cons_succ, List.setIfInBounds_toArray, List.set_cons_zero, List.set_cons_succ]
          refine wpAnyH_ready (rs := [33]) (by kernel_rfl) (by simp) (AllReadyH.cons rfl (fun K hK => ?_) AllReadyH.nil)
          go_simp
          refine (MacSame_val _ _ (l) (0 :: l) false _ ((HA7.out).below N6) r6 (decide_eq_false (fun h => by have := congrArg List.length h; simp at this))).mono ?_
          rintro e m7 ⟨rfl, b7⟩
          have r6 := r6.below b7
          have N7 : Ext w7 m7 := N6.trans b7
          refine hK.out _ _ N7 (fun hHeld => ?_)
          clear hK K
          try simp only [Act.put, List.getElem_toArray, List.getElem_cons_zero, List.getElem_cons_succ, List.setIfInBounds_toArray, List.set_cons_zero, List.set_cons_succ]
          refine wpAnyH_take (i := 34) (v := .bool true) rfl (by kernel_rfl) (by kernel_rfl) (by kernel_rfl) (fun _ _ _ h => h) (yi_not _ _ false (by rfl) rfl rfl) hHeld ?_
          simp only [Act.put, List.getElem_toArray, List.getElem_cons_zero, List.getElem_cons_succ, List.setIfInBounds_toArray, List.set_cons_zero, List.set_cons_succ]
          refine wpAnyH_take (i := 35) (v := .bool true) rfl (by kernel_rfl) (by kernel_rfl) (by kernel_rfl) (fun _ _ _ h => h) (yi_pick _ _ _ true _ (by rfl) rfl rfl rfl) hHeld ?_
          simp only [Act.put, List.getElem_toArray, List.getElem_cons_zero, List.getElem_cons_succ, List.setIfInBounds_toArray, List.set_cons_zero, List.set_cons_succ]
          refine wpAnyH_ready (rs := [36]) (by kernel_rfl) (by simp) (AllReadyH.cons rfl (fun K hK => ?_) AllReadyH.nil)
          go_simp
          refine hK.out _ _ N7 (fun hHeld => ?_)
          clear hK K
          try simp only [Act.put, List.getElem_toArray, List.getElem_cons_zero, List.getElem_cons_succ, List.setIfInBounds_toArray, List.set_cons_zero, List.set_cons_succ]
          refine wpAnyH_done (by kernel_rfl) ?_ _
          go_wp2_with fail
          go_ret
          exact ⟨rfl, HE7.out.trans N7⟩

end Go.Proofs.YtoojcicbeclnhaaDoor
