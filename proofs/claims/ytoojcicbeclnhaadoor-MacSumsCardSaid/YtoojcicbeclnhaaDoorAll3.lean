/- Texts that belong together, one behind the other; each says in its own first remark what it shows. -/
import Derived.Test.YtoojcicbeclnhaaDoorProg
import Derived.Test.YtoojcicbeclnhaaDoorAll1
import Derived.Test.YtoojcicbeclnhaaDoorAll2
import Derived.Lib.SlBytesConst

/- The walk of the document's own Hex. Each theorem names its own conditions. -/
namespace Go.Proofs.YtoojcicbeclnhaaDoor
open Go.RowKit
set_option linter.unusedVariables false
set_option linter.unusedSimpArgs false

def hexD (n : Nat) : UInt8 := [48, 49, 50, 51, 52, 53, 54, 55, 56, 57, 97, 98, 99, 100, 101, 102].getD n 0
def hexL (l : List UInt8) : List UInt8 := l.flatMap fun c => [hexD (c.toNat / 16), hexD (c.toNat % 16)]
theorem hexL_length : ∀ l : List UInt8, (hexL l).length = 2 * l.length
  | [] => rfl
  | c :: r => by
    have := hexL_length r
    simp only [hexL, List.flatMap_cons, List.length_append, List.length_cons, List.length_nil] at *
    omega
theorem hexL_snoc (l : List UInt8) (k : Nat) (hk : k < l.length) : hexL (l.take (k + 1)) = hexL (l.take k) ++ [hexD ((l.getD k 0).toNat / 16), hexD ((l.getD k 0).toNat % 16)] := by
  rw [List.take_succ_eq_append_getElem hk]
  unfold hexL
  rw [List.flatMap_append]
  simp [List.getD, hk]
theorem index_hex (n : Nat) (hn : n < 16) (w : World) :
    (Instr.index 9 (.string { data := #[48, 49, 50, 51, 52, 53, 54, 55, 56, 57, 97, 98, 99, 100, 101, 102] }) (.int .u8 (n : Int))).run Tryd.prog w = .ok (bval (hexD n)) w := by
  rcases (by omega : n = 0 ∨ n = 1 ∨ n = 2 ∨ n = 3 ∨ n = 4 ∨ n = 5 ∨ n = 6 ∨ n = 7 ∨ n = 8 ∨ n = 9 ∨ n = 10 ∨ n = 11 ∨ n = 12 ∨ n = 13 ∨ n = 14 ∨ n = 15) with rfl | rfl | rfl | rfl | rfl | rfl | rfl | rfl | rfl | rfl | rfl | rfl | rfl | rfl | rfl | rfl <;> kernel_rfl
theorem and_u8_15 (n : Nat) : bits .and .u8 (n : Int) 15 = ((n % 16 : Nat) : Int) := by
  have h : (BitVec.ofInt 8 15).toNat = 2 ^ 4 - 1 := by decide
  have key : (BitVec.ofInt 8 (n : Int) &&& BitVec.ofInt 8 15).toNat = ((n : Int) % ((2 ^ 8 : Nat) : Int)).toNat % 2 ^ 4 := by
    rw [BitVec.toNat_and, BitVec.toNat_ofInt, h, Nat.and_two_pow_sub_one_eq_mod]
  show IntKind.u8.wrap ((BitVec.ofInt 8 (n : Int) &&& BitVec.ofInt 8 15).toNat : Nat) = _
  rw [key, IntKind.wrap_u8]
  omega

set_option maxRecDepth 100000 in
set_option maxHeartbeats 4000000 in
theorem hex_any (v : Value) (l : List UInt8) (w : World) (hv : Row1 w v (l.map bval)) (hb : l.length ≤ 1099511627776) :
    Calls Tryd.prog 15 #[v] w fun e w' => e = .returned (.string ⟨(hexL l).toArray⟩) ∧ Below w.heap.size w w' := by
  obtain ⟨i0, hi, hz0, hz1, hz2⟩ := info_parts Tryd.info5
  obtain ⟨a, cap, rfl, r1, r2, r3, r4⟩ := id hv
  unfold maxLen at r2
  rw [List.length_map] at r1 ⊢
  have HI0 := Lib.hid hi
  have HZ0 := Lib.hid hz0
  have HZ1 := Lib.hid hz1
  have HZ2 := Lib.hid hz2
  have HC := Lib.hid r4
  have HB := Lib.hid hb
  have HNIL : Hid (w.ownsRow w.heap.size 5 1 (.slice none 0 0) 0 []) := Lib.hid (World.ownsRow_nil _ _ _ _)
  clear hv r3 r4 hb hi hz0 hz1 hz2
  go_enter Tryd.func15, Tryd.ntmps15
  go_wp2_with fail
  go_loopw [3, 4] (fun x iv wr => ∃ (k : Nat) (xv : Value), k ≤ l.length ∧ xv = x ∧ iv = .int .i64 (k : Int) ∧ wr.ownsRow w.heap.size 5 1 xv (hexL (l.take k)).length ((hexL (l.take k)).map bval) ∧ Ext w wr) (fun _ iv _ => l.length - (intOf iv).toNat)
  case atStart => exact ⟨0, _, by omega, rfl, rfl, HNIL.out, Ext.refl w⟩
  case round =>
    clear HNIL
    obtain ⟨k, xv, hk, rfl, rfl, ho, hE⟩ := hrel
    have k0 : (0 : Int) ≤ (k : Int) := Int.natCast_nonneg _
    have HO := Lib.hid ho
    have HE := Lib.hid hE
    have HS := Lib.hid hE.size
    clear ho hE
    by_cases hlk : k < l.length
    · have k1 : (k : Int) < (l.length : Int) := by omega
      obtain ⟨b', off, rfl, hbs, hcell⟩ := HC.out (by intro e; have h := congrArg List.length e; rw [List.length_map] at h; simp only [List.length_nil] at h; omega)
      have c0 : wr.cell? ⟨b', off + k, none⟩ = some (.int .u8 ((l.getD k 0).toNat : Int)) := by
        have h := hcell k (by rw [List.length_map]; exact hlk)
        rw [bval_get hlk] at h
        rw [← h]
        exact HE.out.cell (p := ⟨b', off + k, none⟩) hbs
      have HSN := Lib.hid (hexL_snoc l k hlk)
      have HLL : Hid ((hexL (l.take k)).length ≤ 2199023255552) := Lib.hid (by rw [hexL_length, List.length_take]; have := HB.out; omega)
      have hn := UInt8.toNat_lt (l.getD k 0)
      generalize (l.getD k 0).toNat = n at *
      have i1 := index_hex (n / 16) (by omega)
      have i2 := index_hex (n % 16) (by omega)
      have d1 : ((n / 16 : Nat) : Int) = (n : Int) / 16 := by omega
      have d2 : ((n % 16 : Nat) : Int) = (n : Int) % 16 := by omega
      have d3 := and_u8_15 n
      rw [d2] at d3 i2
      rw [d1] at i1
      generalize hexD (n / 16) = x1 at *
      generalize hexD (n % 16) = x2 at *
      clear d1 d2 hcell
      have hbw : b' < wr.heap.size := Nat.lt_of_lt_of_le hbs HE.out.size
      go_wp2_with fail
      refine wp_region_from 13 3 14 rfl (by kernel_rfl) (by kernel_rfl) (fun d v c a w h => by cases d <;> exact h) (by kernel_rfl) ?_
      refine det_move _ (xv) (by rfl) rfl rfl ?_
      simp only [Act.put, List.setIfInBounds_toArray, List.set_cons_zero, List.set_cons_succ]
      refine det_move _ (.slice (some ⟨b', off, none⟩) l.length cap) (by rfl) rfl rfl ?_
      simp only [Act.put, List.setIfInBounds_toArray, List.set_cons_zero, List.set_cons_succ]
      refine det_move _ (.int .i64 (k : Int)) (by rfl) rfl rfl ?_
      simp only [Act.put, List.setIfInBounds_toArray, List.set_cons_zero, List.set_cons_succ]
      refine det_sindex _ _ _ _ b' off l.length cap k (by rfl) rfl rfl rfl Tryd.underlying22 hlk Tryd.sizeOf5 ?_
      simp only [Act.put, List.setIfInBounds_toArray, List.set_cons_zero, List.set_cons_succ]
      refine det_cell _ _ b' (off + k) (.int .u8 (n : Int)) (by rfl) rfl rfl (fun w' hw => by rw [← c0]; exact hw.cell (p := ⟨b', off + k, none⟩) hbw) Tryd.isAgg5 ?_
      simp only [Act.put, List.setIfInBounds_toArray, List.set_cons_zero, List.set_cons_succ]
      refine det_val (.int .u8 ((n : Int) / 16)) (by rfl) (fun w hw => by go_simp) ?_
      simp only [Act.put, List.setIfInBounds_toArray, List.set_cons_zero, List.set_cons_succ]
      refine det_vindex _ _ _ _ _ (bval x1) (by rfl) rfl rfl rfl i1 ?_
      simp only [Act.put, List.setIfInBounds_toArray, List.set_cons_zero, List.set_cons_succ]
      refine det_move _ (.slice (some ⟨b', off, none⟩) l.length cap) (by rfl) rfl rfl ?_
      simp only [Act.put, List.setIfInBounds_toArray, List.set_cons_zero, List.set_cons_succ]
      refine det_move _ (.int .i64 (k : Int)) (by rfl) rfl rfl ?_
      simp only [Act.put, List.setIfInBounds_toArray, List.set_cons_zero, List.set_cons_succ]
      refine det_sindex _ _ _ _ b' off l.length cap k (by rfl) rfl rfl rfl Tryd.underlying22 hlk Tryd.sizeOf5 ?_
      simp only [Act.put, List.setIfInBounds_toArray, List.set_cons_zero, List.set_cons_succ]
      refine det_cell _ _ b' (off + k) (.int .u8 (n : Int)) (by rfl) rfl rfl (fun w' hw => by rw [← c0]; exact hw.cell (p := ⟨b', off + k, none⟩) hbw) Tryd.isAgg5 ?_
      simp only [Act.put, List.setIfInBounds_toArray, List.set_cons_zero, List.set_cons_succ]
      refine det_and _ _ _ _ _ _ _ ((n : Int) % 16) (by rfl) rfl rfl rfl d3 ?_
      simp only [Act.put, List.setIfInBounds_toArray, List.set_cons_zero, List.set_cons_succ]
      refine det_vindex _ _ _ _ _ (bval x2) (by rfl) rfl rfl rfl i2 ?_
      simp only [Act.put, List.setIfInBounds_toArray, List.set_cons_zero, List.set_cons_succ]
      refine det_nil ?_
      refine end_step (k := 13) (by rfl) (by decide +kernel) (by decide +kernel) rfl (fun w1 hw1 => ?_)
      refine wp_buildSlice_d (some 24) _ _ _ _ rfl rfl #[bval x1, bval x2] i0 (.int .u8 0) Tryd.underlying22 HI0.out HZ0.out (by rw [HZ1.out]; decide) (by rw [HZ1.out]; decide) (by rw [HZ1.out]; kernel_rfl) ?_
      refine ⟨Ext.alloc _ _, anyB_done (by decide +kernel) (fun w2 hw2 => ?_)⟩
      simp only [Act.put, List.setIfInBounds_toArray, List.set_cons_zero, List.set_cons_succ]
      have HE2 := Lib.hid ((HE.out.trans hw1).trans ((Ext.alloc w1 (.cells #[bval x1, bval x2] 5)).trans hw2))
      have HO2 := Lib.hid (own_below (own_below (own_below HO.out hw1) (Ext.alloc w1 (.cells #[bval x1, bval x2] 5))) hw2)
      have HR2 : Hid (Row1 w2 (.slice (some ⟨w1.heap.size, 0, none⟩) 2 2) ([x1, x2].map bval)) := Lib.hid ((Row1.made w1 #[bval x1, bval x2] 5 _ 2 _ rfl rfl rfl (by unfold maxLen; omega)).below hw2)
      refine any_one (k := 14) (by rfl) (by decide +kernel) rfl ?_
      refine wp_append_row_d (some 25) _ _ 22 rfl rfl w.heap.size 5 i0 (.int .u8 0) 1 Tryd.underlying22 HI0.out HZ0.out HZ1.out HZ2.out rfl _ _ _ rfl HO2.out rfl HR2.out (bval_one _) (by have := HLL.out; unfold maxLen; simp; omega) (by have := HLL.out; simp; omega) HE2.out.size ?_
      intro v3 w3 hown3 hgrow3
      simp only [Act.put, List.setIfInBounds_toArray, List.set_cons_zero, List.set_cons_succ]
      refine any_one (k := 15) (by rfl) (by decide +kernel) rfl ?_
      refine wp_assign_d (some 3) _ v3 rfl rfl rfl ?_
      refine any_nil (by decide +kernel) ?_
      simp only [Act.put, List.setIfInBounds_toArray, List.set_cons_zero, List.set_cons_succ]
      have HX3 := Lib.hid (ext_own HE2.out HO2.out (Nat.le_refl _) hgrow3)
      have HO3 := Lib.hid hown3
      clear hown3 hgrow3
      go_wp2_with fail
      go_roundw
      case rel =>
        refine ⟨k + 1, v3, by omega, rfl, by go_num, ?_, HX3.out⟩
        rw [HSN.out, List.map_append, List.length_append]
        exact HO3.out
      case measure => simp [intOf]; omega
    · have hk2 : (l.length : Int) ≤ (k : Int) := by omega
      have hke : k = l.length := by omega
      have hrw := Row1.of_own HO.out
      rw [hke, List.take_length] at hrw
      have hst := run_string_row 22 9 5 Tryd.underlying22 Tryd.underlying5 Tryd.underlying9 hrw
      clear hrw hke
      go_wp2_with fail
      go_ret
      exact ⟨rfl, HE.out⟩

end Go.Proofs.YtoojcicbeclnhaaDoor

/- The walk of what every law of chapter 7 begins with: alive. Each theorem names its own conditions. -/
namespace Go.Proofs.YtoojcicbeclnhaaDoor
open Go.RowKit
set_option linter.unusedVariables false
set_option linter.unusedSimpArgs false

def jefe : List UInt8 := [74, 101, 102, 101]
def whatYa : List UInt8 := [119, 104, 97, 116, 32, 100, 111, 32, 121, 97, 32, 119, 97, 110, 116, 32, 102, 111, 114, 32, 110, 111, 116, 104, 105, 110, 103, 63]
theorem alive_hexM : hexL (hmac jefe whatYa) = [53, 98, 100, 99, 99, 49, 52, 54, 98, 102, 54, 48, 55, 53, 52, 101, 54, 97, 48, 52, 50, 52, 50, 54, 48, 56, 57, 53, 55, 53, 99, 55, 53, 97, 48, 48, 51, 102, 48, 56, 57, 100, 50, 55, 51, 57, 56, 51, 57, 100, 101, 99, 53, 56, 98, 57, 54, 52, 101, 99, 51, 56, 52, 51] := by decide +kernel

set_option maxRecDepth 100000 in
set_option maxHeartbeats 4000000 in
theorem alive_anyM (w : World) (hG : GlobR w) : Calls Tryd.prog 7 #[] w fun e w' => e = .returned (.bool true) ∧ Below w.heap.size w w' := by
  have HG := Lib.hid hG
  clear hG
  have kc := fun (w : World) (C : Array Value) (n c : Nat) => Lib.run_convert_bytes_const (P := Tryd.prog) w 22 5 C n c Tryd.underlying22 Tryd.underlying5
  have kc2 := fun (w : World) (D C : Array Value) (fr : Nat × Nat) (n c : Nat) => kc (w.alloc (.cells D 5 fr)) C n c
  simp only [size_alloc_w] at kc2
  go_enter Tryd.func7, Tryd.ntmps7
  go_wp2_with fail
  have HE1 := Lib.hid (Ext.alloc w (.cells (jefe.map bval).toArray 5 (4, 5)))
  have HR1 : Hid (Row1 (w.alloc (.cells (jefe.map bval).toArray 5 (4, 5))) (.slice (some ⟨w.heap.size, 0, none⟩) 4 4) (jefe.map bval)) := Lib.hid (Row1.made_mark w _ _ _ _ _ _ rfl rfl rfl (by unfold maxLen; omega))
  have HS1 : Hid ((w.alloc (.cells (jefe.map bval).toArray 5 (4, 5))).heap.size = w.heap.size + 1) := Lib.hid (by simp)
  change Calls _ _ _ (((w.alloc (.cells (jefe.map bval).toArray 5 (4, 5))).alloc (.cells (whatYa.map bval).toArray 5 (28, 29))).alloc (.cells #[.slice (some ⟨w.heap.size + 1, 0, none⟩) 28 28] 22)) _
  generalize w.alloc (.cells (jefe.map bval).toArray 5 (4, 5)) = w1 at *
  rw [← HS1.out]
  have HE2 := Lib.hid (Ext.alloc w1 (.cells (whatYa.map bval).toArray 5 (28, 29)))
  have HR2 : Hid (Row1 (w1.alloc (.cells (whatYa.map bval).toArray 5 (28, 29))) (.slice (some ⟨w1.heap.size, 0, none⟩) 28 28) (whatYa.map bval)) := Lib.hid (Row1.made_mark w1 _ _ _ _ _ _ rfl rfl rfl (by unfold maxLen; omega))
  have HS2 : Hid ((w1.alloc (.cells (whatYa.map bval).toArray 5 (28, 29))).heap.size = w1.heap.size + 1) := Lib.hid (by simp)
  generalize w1.alloc (.cells (whatYa.map bval).toArray 5 (28, 29)) = w2 at *
  rw [← HS2.out]
  have HE3 := Lib.hid (HE1.out.trans HE2.out)
  refine (MacSum_one _ _ jefe whatYa w2 (HR1.out.below HE2.out) HR2.out (by decide) (by decide) (HG.out.ext HE3.out)).mono ?_
  rintro e w4 ⟨rfl, hb⟩
  have HE4 := Lib.hid (HE3.out.trans hb)
  clear hb HR1 HR2 HE1 HE2 HE3 HS1 HS2
  have HAH := Lib.hid alive_hexM
  have HL := Lib.hid (hmac_length jefe whatYa)
  generalize hmac jefe whatYa = o at *
  have HZ := Lib.hid (Blk.made w4 (ints .u8 (List.replicate 32 0)) 27)
  have HS2 := Lib.hid HE4.out.size
  have HE4 := Lib.hid (HE4.out.trans (Ext.alloc w4 (.cells (ints .u8 (List.replicate 32 0)).toArray 27)))
  have HIo : Hid ((Tryd.prog.info? 27).map (·.size) = some (o.map bval).length) := Lib.hid (num_size HL.out)
  have HLo : Hid ((o.map bval).length = (ints .u8 (List.replicate 32 0)).length) := Lib.hid (by rw [List.length_map, HL.out, ints_length, List.length_replicate])
  go_wp2_with (refine wpList_store_blk rfl _ _ _ rfl w4.heap.size (o.map bval) rfl rfl _ _ HZ.out HLo.out HIo.out (bval_one _) ?_; intro w7 hb7 hg7)
  have HE5 := Lib.hid (ext_grown HE4.out hg7 HS2.out)
  have HR5 := Lib.hid (blk_row (n := 32) hb7 (by rw [List.length_map, HL.out]) (by unfold maxLen; omega))
  clear hb7 hg7 HZ HE4
  refine (hex_any _ o _ HR5.out (by rw [HL.out]; omega)).mono ?_
  rintro e w8 ⟨rfl, hb⟩
  have HE6 := Lib.hid (HE5.out.trans hb)
  clear hb HR5
  rw [HAH.out]
  go_wp2_with fail
  go_ret
  exact ⟨rfl, HE6.out⟩

end Go.Proofs.YtoojcicbeclnhaaDoor

/- The walk of what the laws of lists of bytes ask first: are they too many, or too long. Each theorem names its own conditions. -/
namespace Go.Proofs.YtoojcicbeclnhaaDoor
open Go.RowKit
set_option linter.unusedVariables false
set_option linter.unusedSimpArgs false

/-- Are lists too many, or one too long? -/
def bigB (ls : List (List UInt8)) : Bool := decide (30 < ls.length) || ls.any fun x => decide (1000 < x.length)
theorem big_many {ls : List (List UInt8)} (h : 30 < ls.length) : bigB ls = true := by simp [bigB, h]
theorem big_one {ls : List (List UInt8)} {k : Nat} {l : List UInt8} (h : ls[k]? = some l) (hl : 1000 < l.length) : bigB ls = true := by
  unfold bigB
  rw [Bool.or_eq_true]
  right
  rw [List.any_eq_true]
  refine ⟨l, ?_, by simpa using hl⟩
  exact List.mem_of_getElem? h
theorem big_none {ls : List (List UInt8)} (h : ls.length ≤ 30) (hs : ∀ (j : Nat) (l : List UInt8), ls[j]? = some l → l.length ≤ 1000) : bigB ls = false := by
  unfold bigB
  rw [Bool.or_eq_false_iff]
  refine ⟨by simpa using h, ?_⟩
  rw [List.any_eq_false]
  intro x hx
  obtain ⟨j, hj, rfl⟩ := List.getElem_of_mem hx
  have := hs j _ (List.getElem?_eq_getElem hj)
  simpa using this
theorem flat_bound : ∀ (ls : List (List UInt8)), (∀ l ∈ ls, l.length ≤ 1000) → ls.flatten.length ≤ 1000 * ls.length
  | [], _ => by simp
  | l :: r, h => by
    have h1 := h l (List.mem_cons_self ..)
    have h2 := flat_bound r (fun x hx => h x (List.mem_cons_of_mem _ hx))
    simp only [List.flatten_cons, List.length_append, List.length_cons]
    omega
theorem small_flat {ls : List (List UInt8)} (h : bigB ls = false) : ls.flatten.length ≤ 30000 := by
  unfold bigB at h
  rw [Bool.or_eq_false_iff] at h
  have h1 : ls.length ≤ 30 := by simpa using h.1
  have h2 := h.2
  rw [List.any_eq_false] at h2
  have := flat_bound ls (fun l hl => by simpa using h2 l hl)
  omega
theorem small_len {ls : List (List UInt8)} (h : bigB ls = false) : ls.length ≤ 30 := by
  unfold bigB at h
  rw [Bool.or_eq_false_iff] at h
  simpa using h.1

set_option maxRecDepth 100000 in
set_option maxHeartbeats 4000000 in
theorem big_any (v : Value) (ls : List (List UInt8)) (w : World) (hv : RowB w v ls) : Calls Tryd.prog 8 #[v] w fun e w' => e = .returned (.bool (bigB ls)) ∧ w = w' := by
  obtain ⟨vals, hr, hlen, hx⟩ := hv
  obtain ⟨a, cap, rfl, r1, r2, r3, r4⟩ := id hr
  unfold maxLen at r2
  rw [hlen] at r1 ⊢
  have HX := Lib.hid hx
  have HC := Lib.hid r4
  have HLN := Lib.hid hlen
  clear hr hx r3 r4 hlen
  by_cases h30 : 30 < ls.length
  · have h31 : 30 < (ls.length : Int) := by omega
    rw [big_many h30]
    go_enter Tryd.func8, Tryd.ntmps8
    go_wp2_with fail
    go_ret
    exact ⟨rfl, rfl⟩
  · have h31 : (ls.length : Int) ≤ 30 := by omega
    have H30 : Hid (ls.length ≤ 30) := Lib.hid (by omega)
    obtain ⟨bb, hbb⟩ : ∃ b, b = bigB ls := ⟨_, rfl⟩
    have HBB := Lib.hid hbb
    rw [← hbb]
    clear h30 hbb
    go_enter Tryd.func8, Tryd.ntmps8
    go_wp2_with fail
    go_loop [3] (fun iv => ∃ k : Nat, k ≤ ls.length ∧ iv = .int .i64 (k : Int) ∧ ∀ (j : Nat) (l : List UInt8), j < k → ls[j]? = some l → l.length ≤ 1000) (fun iv => ls.length - (intOf iv).toNat)
    case atStart => exact ⟨0, Nat.zero_le _, rfl, fun j l hj => by omega⟩
    case round =>
      obtain ⟨k, hk, rfl, hall⟩ := hrel
      have HA := Lib.hid hall
      have k0 : (0 : Int) ≤ (k : Int) := Int.natCast_nonneg _
      clear hall
      by_cases hlk : k < ls.length
      · have k1 : (k : Int) < (ls.length : Int) := by omega
        obtain ⟨b', off, rfl, hbs, hcell⟩ := HC.out (by intro e; have h := congrArg List.length e; rw [HLN.out] at h; simp only [List.length_nil] at h; omega)
        obtain ⟨xv, hxv⟩ : ∃ x, vals[k]? = some x := ⟨_, List.getElem?_eq_getElem (by rw [HLN.out]; exact hlk)⟩
        obtain ⟨lk, hlk2⟩ : ∃ x, ls[k]? = some x := ⟨_, List.getElem?_eq_getElem hlk⟩
        have c0 : w.cell? ⟨b', off + k, none⟩ = some xv := by
          have h := hcell k (by rw [HLN.out]; exact hlk)
          rw [hxv] at h
          exact h
        obtain ⟨a2, cap2, rfl, s1, s2, s3, s4⟩ := HX.out k xv lk hxv hlk2
        rw [List.length_map] at s1 c0
        unfold maxLen at s2
        have HLK := Lib.hid hlk2
        clear hcell hxv hlk2 s3 s4
        by_cases hbig : 1000 < lk.length
        · have hbig2 : 1000 < (lk.length : Int) := by omega
          have HBT : Hid (bb = true) := Lib.hid (by rw [HBB.out]; exact big_one HLK.out hbig)
          go_wp2_with fail
          go_ret
          exact ⟨by rw [HBT.out]; rfl, rfl⟩
        · have hbig2 : (lk.length : Int) ≤ 1000 := by omega
          go_wp2_with fail
          go_round
          case rel =>
            refine ⟨k + 1, by omega, by go_num, fun j l hj hl => ?_⟩
            by_cases hjk : j = k
            · subst hjk
              have h := HLK.out
              rw [hl] at h
              cases h
              omega
            · exact HA.out j l (by omega) hl
          case measure => simp [intOf]; omega
      · have hk2 : (ls.length : Int) ≤ (k : Int) := by omega
        have HBF : Hid (bb = false) := Lib.hid (by
          rw [HBB.out]
          refine big_none H30.out (fun j l hl => HA.out j l ?_ hl)
          rcases Nat.lt_or_ge j ls.length with h | h
          · omega
          · rw [List.getElem?_eq_none h] at hl; cases hl)
        go_wp2_with fail
        go_ret
        exact ⟨by rw [HBF.out]; rfl, rfl⟩

end Go.Proofs.YtoojcicbeclnhaaDoor

/- The walk of MacSums. Each theorem names its own conditions. -/
namespace Go.Proofs.YtoojcicbeclnhaaDoor
open Go.RowKit
set_option linter.unusedVariables false
set_option linter.unusedSimpArgs false

set_option maxRecDepth 100000 in
set_option maxHeartbeats 8000000 in
theorem macSums_any (kv v : Value) (k : List UInt8) (ls : List (List UInt8)) (w : World) (hk : Row1 w kv (k.map bval)) (hv : RowB w v ls) (hG : GlobR w) (hK : GlobK w) :
    Calls Tryd.prog 3 #[kv, v] w fun e w' => e = .returned (.bool true) ∧ Below w.heap.size w w' := by
  have HG := Lib.hid hG
  have HK := Lib.hid hK
  have HRW := Lib.hid hv
  have HKR := Lib.hid hk
  obtain ⟨a, cap, rfl, r1, r2, r3, r4⟩ := id hk
  rw [List.length_map] at r1 HKR ⊢
  unfold maxLen at r2
  clear hG hK hv hk r3 r4
  go_enter Tryd.func3, Tryd.ntmps3
  go_wp2_with fail
  refine (alive_anyM w HG.out).mono ?_
  rintro e w1 ⟨rfl, hb⟩
  have HE : Hid (Ext w w1) := Lib.hid hb
  clear hb
  go_wp2_with fail
  refine (big_any v ls w1 (HRW.out.below HE.out)).mono ?_
  rintro e w2 ⟨rfl, rfl⟩
  cases hbig : bigB ls with
  | true =>
    clear hbig
    go_wp2_with fail
    go_ret
    exact ⟨rfl, HE.out⟩
  | false =>
    have HLL := Lib.hid (small_flat hbig)
    have HLN : Hid (ls.length ≤ 1000000) := Lib.hid (by have := small_len hbig; omega)
    clear hbig
    by_cases h3 : 300 < k.length
    · have h3' : (300 : Int) < (k.length : Int) := by omega
      go_wp2_with fail
      go_ret
      exact ⟨rfl, HE.out⟩
    · have h3' : (k.length : Int) ≤ 300 := by omega
      have d3 : decide (300 < (k.length : Int)) = false := decide_eq_false (by omega)
      go_wp2_with fail
      refine (MacSum_num _ v k ls w1 (HKR.out.below HE.out) (HRW.out.below HE.out) (by omega) (by have := HLL.out; omega) HLN.out (HG.out.ext HE.out)).mono ?_
      rintro e w3 ⟨rfl, hb⟩
      have HE := Lib.hid (HE.out.trans hb)
      clear hb
      go_wp2_with fail
      refine (join_any v ls w3 (HRW.out.below HE.out) (by have := HLL.out; omega)).mono ?_
      rintro e w4 ⟨x, rfl, hx, hb⟩
      have HX := Lib.hid hx
      have HE := Lib.hid (HE.out.trans hb)
      clear hb hx
      go_wp2_with fail
      refine (rMac_any _ x k ls.flatten w4 (HKR.out.below HE.out) HX.out (by omega) (by have := HLL.out; omega) (HK.out.ext HE.out)).mono ?_
      rintro e w5 ⟨rfl, hb⟩
      have HE := Lib.hid (HE.out.trans hb)
      have HL := Lib.hid (hmac_length k ls.flatten)
      clear hb
      generalize hmac k ls.flatten = o at *
      go_wp2_with (refine wpList_eql (by rfl) _ _ _ _ _ _ 32 _ o o true rfl (Or.inl ⟨rfl, decide_eq_true rfl⟩) Tryd.underlying27 Tryd.underlying5 num_info num_cells num_guard rfl rfl HL.out HL.out ?_)
      go_ret
      exact ⟨rfl, HE.out⟩

end Go.Proofs.YtoojcicbeclnhaaDoor
