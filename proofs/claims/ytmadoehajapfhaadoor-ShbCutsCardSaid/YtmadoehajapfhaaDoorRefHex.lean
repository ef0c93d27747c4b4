/- The walk of the document's own Hex. Each theorem names its own conditions. -/
import Derived.Test.YtmadoehajapfhaaDoorProg
import Derived.Test.YtmadoehajapfhaaDoorRowMore
import Derived.Test.YtmadoehajapfhaaDoorInfoKit
import Derived.Test.YtmadoehajapfhaaDoorDigKit
import Derived.Test.YtmadoehajapfhaaDoorDetTail
namespace Go.Proofs.YtmadoehajapfhaaDoor
open Go.RowKit
set_option linter.unusedVariables false
set_option linter.unusedSimpArgs false

def hexD (n : Nat) : UInt8 := [48, 49, 50, 51, 52, 53, 54, 55, 56, 57, 97, 98, 99, 100, 101, 102].getD n 0
def hexL (l : List UInt8) : List UInt8 := l.flatMap fun c => [hexD (c.toNat / 16), hexD (c.toNat % 16)]
theorem hexL_length : ∀ l : List UInt8, (hexL l).length = 2 * l.length
  | [] => rfl
  | c :: r => by
    have := hexL_length r
    simp only [hexL, List.flatMap_cons, List.length_append, List.length_cons, List.length_nil] at *
    omega
theorem hexL_snoc (l : List UInt8) (k : Nat) (hk : k < l.length) : hexL (l.take (k + 1)) = hexL (l.take k) ++ [hexD ((l.getD k 0).toNat / 16), hexD ((l.getD k 0).toNat % 16)] := by
  rw [List.take_succ_eq_append_getElem hk]
  unfold hexL
  rw [List.flatMap_append]
  simp [List.getD, hk]
theorem index_hex (n : Nat) (hn : n < 16) (w : World) :
    (Instr.index 9 (.string { data := #[48, 49, 50, 51, 52, 53, 54, 55, 56, 57, 97, 98, 99, 100, 101, 102] }) (.int .u8 (n : Int))).run Tryd.prog w = .ok (bval (hexD n)) w := by
  rcases (by omega : n = 0 ∨ n = 1 ∨ n = 2 ∨ n = 3 ∨ n = 4 ∨ n = 5 ∨ n = 6 ∨ n = 7 ∨ n = 8 ∨ n = 9 ∨ n = 10 ∨ n = 11 ∨ n = 12 ∨ n = 13 ∨ n = 14 ∨ n = 15) with rfl | rfl | rfl | rfl | rfl | rfl | rfl | rfl | rfl | rfl | rfl | rfl | rfl | rfl | rfl | rfl <;> kernel_rfl
theorem and_u8_15 (n : Nat) : bits .and .u8 (n : Int) 15 = ((n % 16 : Nat) : Int) := by
  have h : (BitVec.ofInt 8 15).toNat = 2 ^ 4 - 1 := by decide
  have key : (BitVec.ofInt 8 (n : Int) &&& BitVec.ofInt 8 15).toNat = ((n : Int) % ((2 ^ 8 : Nat) : Int)).toNat % 2 ^ 4 := by
    rw [BitVec.toNat_and, BitVec.toNat_ofInt, h, Nat.and_two_pow_sub_one_eq_mod]
  show IntKind.u8.wrap ((BitVec.ofInt 8 (n : Int) &&& BitVec.ofInt 8 15).toNat : Nat) = _
  rw [key, IntKind.wrap_u8]
  omega

set_option maxRecDepth 100000 in
set_option maxHeartbeats 4000000 in
theorem hex_any (v : Value) (l : List UInt8) (w : World) (hv : Row1 w v (l.map bval)) (hb : l.length ≤ 1099511627776) :
    Calls Tryd.prog 18 #[v] w fun e w' => e = .returned (.string ⟨(hexL l).toArray⟩) ∧ Below w.heap.size w w' := by
  obtain ⟨i0, hi, hz0, hz1, hz2⟩ := info_parts Tryd.info5
  obtain ⟨a, cap, rfl, r1, r2, r3, r4⟩ := id hv
  unfold maxLen at r2
  rw [List.length_map] at r1 ⊢
  have HI0 := Lib.hid hi
  have HZ0 := Lib.hid hz0
  have HZ1 := Lib.hid hz1
  have HZ2 := Lib.hid hz2
  have HC := Lib.hid r4
  have HB := Lib.hid hb
  have HNIL : Hid (w.ownsRow w.heap.size 5 1 (.slice none 0 0) 0 []) := Lib.hid (World.ownsRow_nil _ _ _ _)
  clear hv r3 r4 hb hi hz0 hz1 hz2
  go_enter Tryd.func18, Tryd.ntmps18
  go_wp2_with fail
  go_loopw [3, 4] (fun x iv wr => ∃ (k : Nat) (xv : Value), k ≤ l.length ∧ xv = x ∧ iv = .int .i64 (k : Int) ∧ wr.ownsRow w.heap.size 5 1 xv (hexL (l.take k)).length ((hexL (l.take k)).map bval) ∧ Ext w wr) (fun _ iv _ => l.length - (intOf iv).toNat)
  case atStart => exact ⟨0, _, by omega, rfl, rfl, HNIL.out, Ext.refl w⟩
  case round =>
    clear HNIL
    obtain ⟨k, xv, hk, rfl, rfl, ho, hE⟩ := hrel
    have k0 : (0 : Int) ≤ (k : Int) := Int.natCast_nonneg _
    have HO := Lib.hid ho
    have HE := Lib.hid hE
    have HS := Lib.hid hE.size
    clear ho hE
    by_cases hlk : k < l.length
    · have k1 : (k : Int) < (l.length : Int) := by omega
      obtain ⟨b', off, rfl, hbs, hcell⟩ := HC.out (by intro e; have h := congrArg List.length e; rw [List.length_map] at h; simp only [List.length_nil] at h; omega)
      have c0 : wr.cell? ⟨b', off + k, none⟩ = some (.int .u8 ((l.getD k 0).toNat : Int)) := by
        have h := hcell k (by rw [List.length_map]; exact hlk)
        rw [bval_get hlk] at h
        rw [← h]
        exact HE.out.cell (p := ⟨b', off + k, none⟩) hbs
      have HSN := Lib.hid (hexL_snoc l k hlk)
      have HLL : Hid ((hexL (l.take k)).length ≤ 2199023255552) := Lib.hid (by rw [hexL_length, List.length_take]; have := HB.out; omega)
      have hn := UInt8.toNat_lt (l.getD k 0)
      generalize (l.getD k 0).toNat = n at *
      have i1 := index_hex (n / 16) (by omega)
      have i2 := index_hex (n % 16) (by omega)
      have d1 : ((n / 16 : Nat) : Int) = (n : Int) / 16 := by omega
      have d2 : ((n % 16 : Nat) : Int) = (n : Int) % 16 := by omega
      have d3 := and_u8_15 n
      rw [d2] at d3 i2
      rw [d1] at i1
      generalize hexD (n / 16) = x1 at *
      generalize hexD (n % 16) = x2 at *
      clear d1 d2 hcell
      have hbw : b' < wr.heap.size := Nat.lt_of_lt_of_le hbs HE.out.size
      go_wp2_with fail
      refine wp_region_from 13 3 14 rfl (by kernel_rfl) (by kernel_rfl) (fun d v c a w h => by cases d <;> exact h) (by kernel_rfl) ?_
      refine det_move _ (xv) (by rfl) rfl rfl ?_
      simp only [Act.put, List.setIfInBounds_toArray, List.set_cons_zero, List.set_cons_succ]
      refine det_move _ (.slice (some ⟨b', off, none⟩) l.length cap) (by rfl) rfl rfl ?_
      simp only [Act.put, List.setIfInBounds_toArray, List.set_cons_zero, List.set_cons_succ]
      refine det_move _ (.int .i64 (k : Int)) (by rfl) rfl rfl ?_
      simp only [Act.put, List.setIfInBounds_toArray, List.set_cons_zero, List.set_cons_succ]
      refine det_sindex _ _ _ _ b' off l.length cap k (by rfl) rfl rfl rfl Tryd.underlying25 hlk Tryd.sizeOf5 ?_
      simp only [Act.put, List.setIfInBounds_toArray, List.set_cons_zero, List.set_cons_succ]
      refine det_cell _ _ b' (off + k) (.int .u8 (n : Int)) (by rfl) rfl rfl (fun w' hw => by rw [← c0]; exact hw.cell (p := ⟨b', off + k, none⟩) hbw) Tryd.isAgg5 ?_
      simp only [Act.put, List.setIfInBounds_toArray, List.set_cons_zero, List.set_cons_succ]
      refine det_val (.int .u8 ((n : Int) / 16)) (by rfl) (fun w hw => by go_simp) ?_
      simp only [Act.put, List.setIfInBounds_toArray, List.set_cons_zero, List.set_cons_succ]
      refine det_vindex _ _ _ _ _ (bval x1) (by rfl) rfl rfl rfl i1 ?_
      simp only [Act.put, List.setIfInBounds_toArray, List.set_cons_zero, List.set_cons_succ]
      refine det_move _ (.slice (some ⟨b', off, none⟩) l.length cap) (by rfl) rfl rfl ?_
      simp only [Act.put, List.setIfInBounds_toArray, List.set_cons_zero, List.set_cons_succ]
      refine det_move _ (.int .i64 (k : Int)) (by rfl) rfl rfl ?_
      simp only [Act.put, List.setIfInBounds_toArray, List.set_cons_zero, List.set_cons_succ]
      refine det_sindex _ _ _ _ b' off l.length cap k (by rfl) rfl rfl rfl Tryd.underlying25 hlk Tryd.sizeOf5 ?_
      simp only [Act.put, List.setIfInBounds_toArray, List.set_cons_zero, List.set_cons_succ]
      refine det_cell _ _ b' (off + k) (.int .u8 (n : Int)) (by rfl) rfl rfl (fun w' hw => by rw [← c0]; exact hw.cell (p := ⟨b', off + k, none⟩) hbw) Tryd.isAgg5 ?_
      simp only [Act.put, List.setIfInBounds_toArray, List.set_cons_zero, List.set_cons_succ]
      refine det_and _ _ _ _ _ _ _ ((n : Int) % 16) (by rfl) rfl rfl rfl d3 ?_
      simp only [Act.put, List.setIfInBounds_toArray, List.set_cons_zero, List.set_cons_succ]
      refine det_vindex _ _ _ _ _ (bval x2) (by rfl) rfl rfl rfl i2 ?_
      simp only [Act.put, List.setIfInBounds_toArray, List.set_cons_zero, List.set_cons_succ]
      refine det_nil ?_
      refine end_step (k := 13) (by rfl) (by decide +kernel) (by decide +kernel) rfl (fun w1 hw1 => ?_)
      refine wp_buildSlice_d (some 24) _ _ _ _ rfl rfl #[bval x1, bval x2] i0 (.int .u8 0) Tryd.underlying25 HI0.out HZ0.out (by rw [HZ1.out]; decide) (by rw [HZ1.out]; decide) (by rw [HZ1.out]; kernel_rfl) ?_
      refine ⟨Ext.alloc _ _, anyB_done (by decide +kernel) (fun w2 hw2 => ?_)⟩
      simp only [Act.put, List.setIfInBounds_toArray, List.set_cons_zero, List.set_cons_succ]
      have HE2 := Lib.hid ((HE.out.trans hw1).trans ((Ext.alloc w1 (.cells #[bval x1, bval x2] 5)).trans hw2))
      have HO2 := Lib.hid (own_below (own_below (own_below HO.out hw1) (Ext.alloc w1 (.cells #[bval x1, bval x2] 5))) hw2)
      have HR2 : Hid (Row1 w2 (.slice (some ⟨w1.heap.size, 0, none⟩) 2 2) ([x1, x2].map bval)) := Lib.hid ((Row1.made w1 #[bval x1, bval x2] 5 _ 2 _ rfl rfl rfl (by unfold maxLen; omega)).below hw2)
      refine any_one (k := 14) (by rfl) (by decide +kernel) rfl ?_
      refine wp_append_row_d (some 25) _ _ 25 rfl rfl w.heap.size 5 i0 (.int .u8 0) 1 Tryd.underlying25 HI0.out HZ0.out HZ1.out HZ2.out rfl _ _ _ rfl HO2.out rfl HR2.out (bval_one _) (by have := HLL.out; unfold maxLen; simp; omega) (by have := HLL.out; simp; omega) HE2.out.size ?_
      intro v3 w3 hown3 hgrow3
      simp only [Act.put, List.setIfInBounds_toArray, List.set_cons_zero, List.set_cons_succ]
      refine any_one (k := 15) (by rfl) (by decide +kernel) rfl ?_
      refine wp_assign_d (some 3) _ v3 rfl rfl rfl ?_
      refine any_nil (by decide +kernel) ?_
      simp only [Act.put, List.setIfInBounds_toArray, List.set_cons_zero, List.set_cons_succ]
      have HX3 := Lib.hid (ext_own HE2.out HO2.out (Nat.le_refl _) hgrow3)
      have HO3 := Lib.hid hown3
      clear hown3 hgrow3
      go_wp2_with fail
      go_roundw
      case rel =>
        refine ⟨k + 1, v3, by omega, rfl, by go_num, ?_, HX3.out⟩
        rw [HSN.out, List.map_append, List.length_append]
        exact HO3.out
      case measure => simp [intOf]; omega
    · have hk2 : (l.length : Int) ≤ (k : Int) := by omega
      have hke : k = l.length := by omega
      have hrw := Row1.of_own HO.out
      rw [hke, List.take_length] at hrw
      have hst := run_string_row 25 9 5 Tryd.underlying25 Tryd.underlying5 Tryd.underlying9 hrw
      clear hrw hke
      go_wp2_with fail
      go_ret
      exact ⟨rfl, HE.out⟩

end Go.Proofs.YtmadoehajapfhaaDoor
