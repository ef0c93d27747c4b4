/- The walk of ScalarShifts. Each theorem names its own conditions. -/
import Derived.Test.YtoebokeehhfboaaDoorSclLaw0
import Derived.Test.YtoebokeehhfboaaDoorDetLoad
import Derived.Test.YtoebokeehhfboaaDoorRowMore
import Derived.Test.YtoebokeehhfboaaDoorInfoKit
namespace Go.Proofs.YtoebokeehhfboaaDoor
open Go.RowKit
set_option linter.unusedVariables false
set_option linter.unusedSimpArgs false

/-- 256. -/
def wbL : List UInt8 := 0 :: 1 :: List.replicate 30 0
theorem wbL_length : wbL.length = 32 := rfl
theorem leN_wbL : leN wbL = 256 := by decide +kernel
theorem build_wb (w : World) : (Instr.build 25 #[(0, .int .u8 0), (1, .int .u8 1)]).run Tryd.prog w = .ok (.agg (wbL.map bval).toArray) w := by
  simp [Instr.build, Tryd.zeroValue25]
  rfl
theorem build_sm (x : UInt8) (w : World) : (Instr.build 25 #[(0, .int .u8 (x.toNat : Int))]).run Tryd.prog w = .ok (.agg ((smL x).map bval).toArray) w := by
  simp [Instr.build, Tryd.zeroValue25]
  rfl
theorem leN_append : ∀ (l m : List UInt8), leN (l ++ m) = leN l + 256 ^ l.length * leN m
  | [], m => by simp [leN]
  | b :: r, m => by
    simp only [List.cons_append, leN, leN_append r m, List.length_cons, Nat.pow_succ]
    grind
theorem nq_mulL (x y : Int) : nq (((leN (nq x) : Nat) : Int) * y) = nq (x * y) := nq_congr (by rw [nq_val, Int.mul_emod, Int.emod_emod_of_dvd _ (Int.dvd_refl _), ← Int.mul_emod])
theorem nq_addL (x y : Int) : nq (((leN (nq x) : Nat) : Int) + y) = nq (x + y) := nq_congr (by rw [nq_val, Int.add_emod, Int.emod_emod_of_dvd _ (Int.dvd_refl _), ← Int.add_emod])
theorem shift_eq (l : List UInt8) (x : UInt8) : nq (leN (x :: l) : Nat) = nq (((leN (nq (((leN (nq (leN l : Nat)) : Nat) : Int) * ((leN wbL : Nat) : Int))) : Nat) : Int) + ((leN (smL x) : Nat) : Int)) := by
  rw [nq_addL]
  refine nq_congr ?_
  rw [leN_wbL, leN_smL, nq_val, Int.add_emod (((leN l : Nat) : Int) % qQ * ((256 : Nat) : Int)), Int.mul_emod, Int.emod_emod_of_dvd _ (Int.dvd_refl _), ← Int.mul_emod, ← Int.add_emod]
  congr 1
  simp only [leN]
  omega
theorem tail_eq (l : List UInt8) : leN (l ++ [0, 0]) = leN l := by
  rw [leN_append]
  show leN l + 256 ^ l.length * 0 = leN l
  omega

set_option maxRecDepth 100000 in
set_option maxHeartbeats 8000000 in
theorem scalarShifts_any (v : Value) (l : List UInt8) (x : UInt8) (w : World) (hv : Row1 w v (l.map bval)) (hG : GlobT w) :
    Calls Tryd.prog 6 #[v, .int .u8 (x.toNat : Int)] w fun e w' => e = .returned (.bool true) ∧ Below w.heap.size w w' := by
  obtain ⟨i0, hi, hz0, hz1, hz2⟩ := info_parts Tryd.info5
  have HGT := Lib.hid hG
  have HRW := Lib.hid hv
  obtain ⟨a, cap, hva, r1, r2, r3, r4⟩ := id hv
  rw [List.length_map] at hva r1
  unfold maxLen at r2
  have HVA := Lib.hid hva
  have HI0 := Lib.hid hi
  have HZ0 := Lib.hid hz0
  have HZ1 := Lib.hid hz1
  have HZ2 := Lib.hid hz2
  clear hG hv r3 r4 hva
  go_enter Tryd.func6, Tryd.ntmps6
  have HE : Hid (Ext w w) := Lib.hid (Ext.refl w)
  go_wp2_with fail
  refine (alive_any _ (HGT.out.ext HE.out)).mono ?_
  rintro e wa ⟨rfl, hb⟩
  have HE := Lib.hid (HE.out.trans hb)
  clear hb
  have hva := HVA.out
  subst hva
  by_cases hle : l.length ≤ 60
  · have hle2 : ((l.length : Int) ≤ 60) := by omega
    have HLL : Hid (l.length ≤ 60) := Lib.hid hle
    have HLM : Hid ((l.map bval).length = l.length) := Lib.hid (List.length_map _)
    have HO1 := Lib.hid (own_made wa #[.int .u8 (x.toNat : Int)] w.heap.size 5 1 [bval x] rfl rfl (by unfold maxLen; omega) HE.out.size)
    have HX1 := Lib.hid (HE.out.trans (Ext.alloc wa (.cells #[.int .u8 (x.toNat : Int)] 5)))
    have HR1 := Lib.hid (HRW.out.below HX1.out)
    have HS1 := Lib.hid HX1.out.size
    go_wp2_with (at_builtin; refine wpList_append_row rfl _ _ 22 rfl w.heap.size 5 i0 (.int .u8 0) 1 Tryd.underlying22 HI0.out HZ0.out HZ1.out HZ2.out rfl _ 1 [bval x] rfl HO1.out rfl HR1.out (bval_one _) (by rw [HLM.out]; unfold maxLen; omega) (by rw [HLM.out]; omega) HS1.out ?_; intro v2 w2 hown2 hgrow2)
    have HX2 := Lib.hid (ext_own HX1.out HO1.out (Nat.le_refl _) hgrow2)
    have HR2 : Hid (Row1 w2 v2 ((x :: l).map bval)) := Lib.hid (Row1.of_own hown2)
    have HT2 : Hid ((x :: l).take 64 = x :: l) := Lib.hid (List.take_of_length_le (by have := HLL.out; simp; omega))
    have HT1 : Hid (l.take 64 = l) := Lib.hid (List.take_of_length_le (by omega))
    clear hown2 hgrow2 HX1 HO1 HR1 HS1
    refine (Reduce_num _ (x :: l) _ HR2.out (HGT.out.ext HX2.out)).mono ?_
    rintro e w3 ⟨rfl, hb⟩
    rw [HT2.out]
    have HX3 := Lib.hid (HX2.out.trans hb)
    clear hb HX2 HR2
    have HZ := Lib.hid (Blk.made w3 (ints .u8 (List.replicate 32 0)) 25)
    have HX4 := Lib.hid (HX3.out.trans (Ext.alloc w3 (.cells (ints .u8 (List.replicate 32 0)).toArray 25)))
    have HS3 := Lib.hid HX3.out.size
    have HIr : Hid (∀ y, (Tryd.prog.info? 25).map (·.size) = some ((nq y).map bval).length) := Lib.hid (fun y => num_size (nq_length _))
    have HLE : Hid (∀ y, ((nq y).map bval).length = (ints .u8 (List.replicate 32 0)).length) := Lib.hid (fun y => by rw [List.length_map, nq_length]; rfl)
    have hbw := build_wb
    have hbs := build_sm x
    go_wp2_with (refine wpList_store_blk rfl _ _ _ rfl w3.heap.size ((nq (leN (x :: l) : Nat)).map bval) rfl rfl _ _ HZ.out (HLE.out _) (HIr.out _) (bval_one _) ?_; intro w4 hb4 hg4)
    have HX4 := Lib.hid (ext_grown HX4.out hg4 HS3.out)
    have H6 := Lib.hid hb4
    clear hb4 hg4 HZ HS3 HX3
    generalize w3.heap.size = P at *
    refine (Reduce_num _ l _ (HRW.out.below HX4.out) (HGT.out.ext HX4.out)).mono ?_
    rintro e w5 ⟨rfl, hb⟩
    rw [HT1.out]
    have H6 := Lib.hid (ext_blk H6.out hb)
    have HX5 := Lib.hid (HX4.out.trans hb)
    clear hb HX4
    go_wp2_with fail
    refine (Mul_num (nq (leN l : Nat)) wbL _ (nq_length _) wbL_length (HGT.out.ext HX5.out)).mono ?_
    rintro e w6 ⟨rfl, hb⟩
    have H6 := Lib.hid (ext_blk H6.out hb)
    have HX5 := Lib.hid (HX5.out.trans hb)
    clear hb
    go_wp2_with fail
    refine (Add_num (nq (((leN (nq (leN l : Nat)) : Nat) : Int) * ((leN wbL : Nat) : Int))) (smL x) _ (nq_length _) (smL_length _) (HGT.out.ext HX5.out)).mono ?_
    rintro e w7 ⟨rfl, hb⟩
    have H6 := Lib.hid (ext_blk H6.out hb)
    have HX5 := Lib.hid (HX5.out.trans hb)
    clear hb
    rw [← shift_eq l x]
    have HZ := Lib.hid (Blk.made w7 (ints .u8 (List.replicate 32 0)) 25)
    have H6P := H6.out.lt
    have H6 := Lib.hid (H6.out.alloc (.cells (ints .u8 (List.replicate 32 0)).toArray 25))
    have HX7 := Lib.hid (HX5.out.trans (Ext.alloc w7 (.cells (ints .u8 (List.replicate 32 0)).toArray 25)))
    have HS7 := Lib.hid HX5.out.size
    have HP7 : Hid (P < w7.heap.size) := Lib.hid H6P
    clear HX5 H6P
    go_wp2_with (first | (refine wpList_store_blk rfl _ _ _ rfl w7.heap.size ((nq (leN (x :: l) : Nat)).map bval) rfl rfl _ _ HZ.out (HLE.out _) (HIr.out _) (bval_one _) ?_; intro w8 hb8 hg8; have K6 := Lib.hid (H6.out.grown hg8 (by have := HP7.out; simp; omega)); have K7 := Lib.hid hb8; have HX8 := Lib.hid (ext_grown HX7.out hg8 HS7.out); have HR8 := Lib.hid (HRW.out.below HX8.out); have HNIL : Hid (w8.ownsRow w8.heap.size 5 1 (.slice none 0 0) 0 []) := Lib.hid (World.ownsRow_nil _ _ _ _); clear hb8 hg8) | (refine wpList_load_blk rfl _ _ rfl P rfl _ _ _ _ K6.out Tryd.underlying25 (HIr.out _) ?_) | (refine wpList_load_blk rfl _ _ rfl w7.heap.size rfl _ _ _ _ K7.out Tryd.underlying25 (HIr.out _) ?_) | (refine wpList_eql (by rfl) _ _ _ _ _ _ 32 _ (nq (leN (x :: l) : Nat)) (nq (leN (x :: l) : Nat)) true rfl (Or.inl ⟨rfl, decide_eq_true rfl⟩) Tryd.underlying25 Tryd.underlying5 num_info num_cells num_guard rfl rfl (nq_length _) (nq_length _) ?_) | (at_builtin; refine wpList_append_w (by rfl) _ _ 22 rfl w8.heap.size 5 i0 (.int .u8 0) 1 Tryd.underlying22 HI0.out HZ0.out HZ1.out HZ2.out rfl _ 0 [] rfl HNIL.out rfl HR8.out (bval_one _) (by rw [HLM.out]; unfold maxLen; omega) (by rw [HLM.out]; omega) (Nat.le_refl _) ?_; intro v9 w9 hown9 hgrow9; have HO9 := Lib.hid hown9; have HX9 := Lib.hid (ext_own HX8.out HNIL.out HX8.out.size hgrow9); have HS9 := Lib.hid hgrow9.size; clear hown9 hgrow9) | (at_builtin; refine wpList_append_w (by rfl) _ _ 22 rfl w8.heap.size 5 i0 (.int .u8 0) 1 Tryd.underlying22 HI0.out HZ0.out HZ1.out HZ2.out rfl _ (0 + (l.map bval).length) _ rfl (HO9.out.alloc _) rfl (Row1.made _ #[.int .u8 0, .int .u8 0] _ _ 2 ([0, 0].map bval) rfl rfl rfl (by unfold maxLen; omega)) (bval_one _) (by rw [HLM.out]; unfold maxLen; simp; omega) (by rw [HLM.out]; simp; omega) (by simp; have := HS9.out; omega) ?_; intro v10 w10 hown10 hgrow10))
    have HX10 := Lib.hid (ext_own (HX9.out.trans (Ext.alloc w9 (.cells #[.int .u8 0, .int .u8 0] 5))) (HO9.out.alloc _) HX8.out.size hgrow10)
    have HR10 : Hid (Row1 w10 v10 ((l ++ [0, 0]).map bval)) := Lib.hid (by have h := Row1.of_own hown10; rw [List.nil_append, ← List.map_append] at h; exact h)
    have HT10 : Hid ((l ++ [0, 0]).take 64 = l ++ [0, 0]) := Lib.hid (List.take_of_length_le (by have := HLL.out; simp; omega))
    have HTE := Lib.hid (tail_eq l)
    clear hown10 hgrow10 HO9 HX9 HS9 K6 K7
    refine (Reduce_num _ (l ++ [0, 0]) _ HR10.out (HGT.out.ext HX10.out)).mono ?_
    rintro e w11 ⟨rfl, hb⟩
    rw [HT10.out, HTE.out]
    have HX11 := Lib.hid (HX10.out.trans hb)
    clear hb HR10 HX10
    go_wp2_with fail
    refine (Reduce_num _ l _ (HRW.out.below HX11.out) (HGT.out.ext HX11.out)).mono ?_
    rintro e w12 ⟨rfl, hb⟩
    rw [HT1.out]
    have HX12 := Lib.hid (HX11.out.trans hb)
    clear hb HX11
    go_wp2_with (refine wpList_eql (by rfl) _ _ _ _ _ _ 32 _ (nq (leN l : Nat)) (nq (leN l : Nat)) true rfl (Or.inl ⟨rfl, decide_eq_true rfl⟩) Tryd.underlying25 Tryd.underlying5 num_info num_cells num_guard rfl rfl (nq_length _) (nq_length _) ?_)
    go_ret
    exact ⟨rfl, HX12.out⟩
  · have hle2 : (60 : Int) < (l.length : Int) := by omega
    go_wp2_with fail
    go_ret
    exact ⟨rfl, HE.out⟩

end Go.Proofs.YtoebokeehhfboaaDoor
