/- The walks of the code's Reduce, Add, Mul, Less. Each theorem names its own conditions. -/
import Derived.Test.YtoebokeehhfboaaDoorSclNum
import Derived.Test.YtoebokeehhfboaaDoorSclLimbs
import Derived.Test.YtoebokeehhfboaaDoorDetAll
namespace Go.Proofs.YtoebokeehhfboaaDoor
open Go.RowKit
set_option linter.unusedVariables false
set_option linter.unusedSimpArgs false

theorem limF_num (l : List UInt8) (hl : l.length ≤ 64) (w : World) (hG : GlobT w) :
    Calls Tryd.prog 17 #[.agg (ints .i64 (limF l)).toArray] w fun e w' => e = .returned (.agg ((nq (leN l : Nat)).map bval).toArray) ∧ Below w.heap.size w w' := by
  have h := limF_can l hl
  refine numOf_any (limF l) _ 268435456 w hG h.len (by omega) (by omega) (fun j hj => ?_) h.val (by omega) (leN_hQ l hl)
  rcases (by omega : j < 18 ∨ j = 18) with g | g
  · have := h.low j g; omega
  · rw [g]; have := h.top; omega

theorem Row1.head {w : World} {a : Option Addr} {n cap : Nat} {vs : List Value} (h : Row1 w (.slice a n cap) vs) (k : Nat) (hk : k ≤ vs.length) : Row1 w (.slice a k cap) (vs.take k) := by
  obtain ⟨a', cap', e, h1, h2, h3, h4⟩ := h
  cases e
  have hl : (vs.take k).length = k := by simp; omega
  refine ⟨a, cap, by rw [hl], by rw [hl]; omega, h2, h3, fun hne => ?_⟩
  have hv : vs ≠ [] := by intro e; subst e; simp at hne
  obtain ⟨b, off, e, hb, hc⟩ := h4 hv
  refine ⟨b, off, e, hb, fun i hi => ?_⟩
  rw [hl] at hi
  rw [hc i (by omega), List.getElem?_take, if_pos hi]

set_option maxHeartbeats 4000000 in
theorem Reduce_num (v : Value) (l : List UInt8) (w : World) (hv : Row1 w v (l.map bval)) (hG : GlobT w) :
    Calls Tryd.prog 9 #[v] w fun e w' => e = .returned (.agg ((nq (leN (l.take 64) : Nat)).map bval).toArray) ∧ Below w.heap.size w w' := by
  have h64 : (l.take 64).length ≤ 64 := by simp; omega
  have HV := Lib.hid hv
  obtain ⟨a, cap, rfl, r1, r2, r3, r4⟩ := hv
  have HL64 := Lib.hid h64
  have HG := Lib.hid hG
  have HB := Lib.hid (Blk.made w (ints .u8 (List.replicate 32 0)) 25)
  have HE := Lib.hid (Ext.alloc w (.cells (ints .u8 (List.replicate 32 0)).toArray 25))
  have HR4 := Lib.hid r4
  have HR3 := Lib.hid r3
  have HLM : Hid ((l.map bval).length = l.length) := Lib.hid (List.length_map _)
  clear h64 hG r4 r3
  rw [HLM.out] at r1 ⊢
  unfold maxLen at r2
  have hi1 : Hid ((Tryd.prog.info? 25).map (·.size) = some ((nq (leN (l.take 64) : Nat)).map bval).length) := Lib.hid (num_size (nq_length _))
  have hl1 : Hid (((nq (leN (l.take 64) : Nat)).map bval).length = (ints .u8 (List.replicate 32 0)).length) := Lib.hid (by rw [List.length_map, nq_length]; rfl)
  by_cases hle : l.length ≤ 64
  · skip
    have HRW : Hid (Row1 w (.slice a l.length cap) ((l.take 64).map bval)) := Lib.hid (by rw [List.take_of_length_le hle]; have := HV.out; rwa [HLM.out] at this)
    go_enter Tryd.func9, Tryd.ntmps9
    go_wp2_with fail
    change Calls _ _ _ (w.alloc (.cells (ints .u8 (List.replicate 32 0)).toArray 25)) _
    refine (limbsOf_any _ (l.take 64) _ HL64.out (HRW.out.below HE.out)).mono ?_
    rintro e w1 ⟨rfl, hb1⟩
    have HB := Lib.hid (ext_blk HB.out hb1)
    have HE := Lib.hid (HE.out.trans hb1)
    clear hb1
    go_wp2_with fail
    refine (limF_num (l.take 64) HL64.out _ (HG.out.ext HE.out)).mono ?_
    rintro e w2 ⟨rfl, hb1⟩
    have HB := Lib.hid (ext_blk HB.out hb1)
    have HE := Lib.hid (HE.out.trans hb1)
    clear hb1
    go_wp2_with (refine wpList_store_blk rfl _ _ _ rfl w.heap.size _ rfl rfl _ _ HB.out hl1.out hi1.out (bval_one _) ?_; intro w7 hb7 hg7)
    exact bodyPost_ret (v := .agg ((nq (leN (l.take 64) : Nat)).map bval).toArray) (result_row (by rfl) _ w.heap.size _ _ _ (by rfl) hb7 Tryd.underlying25 rfl hi1.out) rfl ⟨rfl, ext_grown HE.out hg7 (Nat.le_refl _)⟩
  · skip
    have HRW : Hid (Row1 w (.slice a 64 cap) ((l.take 64).map bval)) := Lib.hid (by rw [List.map_take]; exact HV.out.head 64 (by rw [HLM.out]; omega))
    go_enter Tryd.func9, Tryd.ntmps9
    go_wp2_with fail
    change Calls _ _ _ (w.alloc (.cells (ints .u8 (List.replicate 32 0)).toArray 25)) _
    refine (limbsOf_any _ (l.take 64) _ HL64.out (HRW.out.below HE.out)).mono ?_
    rintro e w1 ⟨rfl, hb1⟩
    have HB := Lib.hid (ext_blk HB.out hb1)
    have HE := Lib.hid (HE.out.trans hb1)
    clear hb1
    go_wp2_with fail
    refine (limF_num (l.take 64) HL64.out _ (HG.out.ext HE.out)).mono ?_
    rintro e w2 ⟨rfl, hb1⟩
    have HB := Lib.hid (ext_blk HB.out hb1)
    have HE := Lib.hid (HE.out.trans hb1)
    clear hb1
    go_wp2_with (refine wpList_store_blk rfl _ _ _ rfl w.heap.size _ rfl rfl _ _ HB.out hl1.out hi1.out (bval_one _) ?_; intro w7 hb7 hg7)
    exact bodyPost_ret (v := .agg ((nq (leN (l.take 64) : Nat)).map bval).toArray) (result_row (by rfl) _ w.heap.size _ _ _ (by rfl) hb7 Tryd.underlying25 rfl hi1.out) rfl ⟨rfl, ext_grown HE.out hg7 (Nat.le_refl _)⟩

end Go.Proofs.YtoebokeehhfboaaDoor
