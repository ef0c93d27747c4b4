/- The walks of the document's own cursor: Raw, Int, Bytes, Left, End. Each theorem names its own conditions. -/
import Derived.Test.YtcgppiniknnjpaaPackRef
namespace Go.Proofs.Ytcgppiniknnjpaa
open Go.RowKit
set_option linter.unusedVariables false

/-- The document's own cursor, in a block of the call's own. -/
def RCur (w : World) (c : Nat) (bv : Value) (p : Nat) (bad : Bool) : Prop := Blk w c [bv, .int .i64 p, .bool bad] 35

set_option maxHeartbeats 1000000 in
/-- Raw, of a cursor that is bad, or where there are fewer bytes, or of a negative number. -/
theorem rraw_no (c p len cap : Nat) (a : Option Addr) (bad : Bool) (n : Int) (w : World) (h : RCur w c (.slice a len cap) p bad) (hlen : len ≤ cap) (hm : cap ≤ maxLen) (hp : p ≤ len) (hn : bad = true ∨ n < 0 ∨ (len : Int) - p < n) :
    Calls Try.prog 19 #[.pointer (some ⟨c, 0, none⟩), .int .i64 n] w fun e w' => e = .returned (.slice none 0 0) ∧ RCur w' c (.slice a len cap) p true ∧ w.grownBy w' (some c) := by
  unfold maxLen at hm
  have c0 := h.cell 0
  have c1 := h.cell 1
  have c2 := h.cell 2
  have f2 := h.free 2
  simp only [List.getElem?_cons_zero, List.getElem?_cons_succ] at c0 c1 c2
  have HR := Lib.hid h
  have hpi : (0 : Int) ≤ (p : Int) := Int.natCast_nonneg _
  clear h
  cases bad with
  | true =>
    clear hn
    go_enter Try.func19, Try.ntmps19
    go_wp2_with fail
    go_quiet (fail)
    go_wp2_with fail
    go_ret
    exact ⟨rfl, (HR.out.drewN _).set 2 (.bool true), grownBy_set (grownBy_drewN (grownBy_refl w _) _) 2 _⟩
  | false =>
    by_cases h1 : n < 0
    · clear hn
      go_enter Try.func19, Try.ntmps19
      go_wp2_with fail
      go_quiet (fail)
      go_wp2_with fail
      go_ret
      exact ⟨rfl, (HR.out.drewN _).set 2 (.bool true), grownBy_set (grownBy_drewN (grownBy_refl w _) _) 2 _⟩
    · have h2 : (len : Int) - p < n := by
        rcases hn with h | h | h
        · cases h
        · exact absurd h h1
        · exact h
      have hd : decide (n < 0) = false := decide_eq_false h1
      have h1' : 0 ≤ n := by omega
      clear hn h1
      go_enter Try.func19, Try.ntmps19
      go_wp2_with fail
      go_quiet (fail)
      go_wp2_with fail
      go_ret
      exact ⟨rfl, (HR.out.drewN _).set 2 (.bool true), grownBy_set (grownBy_drewN (grownBy_refl w _) _) 2 _⟩

set_option maxHeartbeats 2000000 in
/-- Raw, where there are as many bytes. -/
theorem rraw_yes {bl : List UInt8} (c p n : Nat) (bv : Value) (w : World) (h : RCur w c bv p false) (hb : Row1 w bv (bl.map bval)) (hp : p + n ≤ bl.length) (hsz : bl.length ≤ 1099511627776) :
    Calls Try.prog 19 #[.pointer (some ⟨c, 0, none⟩), .int .i64 n] w fun e w' => ∃ v, e = .returned v ∧ w'.ownsRow w.heap.size 5 1 v n (((bl.drop p).take n).map bval) ∧ RCur w' c bv (p + n) false ∧ w.grownBy w' (some c) := by
  obtain ⟨i0, hi, hz0, hz1, hz2⟩ := info_parts Try.info5
  have hb0 := hb
  obtain ⟨a, cap, rfl, h1, h2, h3, h4⟩ := hb
  rw [List.length_map] at h1
  unfold maxLen at h2
  have c0 := h.cell 0
  have c1 := h.cell 1
  have c2 := h.cell 2
  have f1 := h.free 1
  simp only [List.getElem?_cons_zero, List.getElem?_cons_succ] at c0 c1 c2
  rw [List.length_map] at c0 h hb0
  have hpi : (0 : Int) ≤ (p : Int) := Int.natCast_nonneg _
  have hni : (0 : Int) ≤ (n : Int) := Int.natCast_nonneg _
  have hd : decide ((n : Int) < 0) = false := decide_eq_false (by omega)
  have hd2 : decide ((bl.length : Int) - p < n) = false := decide_eq_false (by omega)
  have hw : IntKind.i64.wrap ((p : Int) + n) = (p : Int) + n := IntWalk.i64_in _ (by omega)
  have hw2 : (0 : Int) ≤ (p : Int) + n := by omega
  have hpc : p + n ≤ cap := by omega
  have hw3 : ((p : Int) + n).toNat = p + n := by omega
  have hpc2 : (p : Int) + n ≤ (cap : Int) := by omega
  have hw0 : IntKind.i64.wrap 0 = 0 := by decide
  have HR := Lib.hid h
  have HB := Lib.hid hb0
  have hl : Hid ((((bl.drop p).take n).map bval).length = n) := Lib.hid (by simp; omega)
  clear h hb0 h4
  cases a with
  | none =>
    have hcap := h3 rfl
    have hb0 : bl = [] := List.eq_nil_of_length_eq_zero (by omega)
    subst hb0
    subst hcap
    have hp0 : p = 0 := by simp at hp; omega
    have hn0 : n = 0 := by simp at hp; omega
    subst hp0
    subst hn0
    have HV : Hid (Row1 w (.slice none 0 0) ((([] : List UInt8).drop 0).take 0 |>.map bval)) := Lib.hid (by simpa using Row1.nil w)
    have hcw := HR.out.lt
    go_enter Try.func19, Try.ntmps19
    go_wp2_with fail
    go_quiet (fail)
    go_wp2_with fail
    go_region_held3 (fun w' => w'.cell? ⟨c, 0, none⟩ = some (.slice none 0 0) ∧ w'.cell? ⟨c, 1, none⟩ = some (.int .i64 0))
      (first | go_keep | exact ⟨(hgrow1.cell_far ⟨c, 0, none⟩ hcw (by simp [Value.ownBlock])).trans c0, (hgrow1.cell_far ⟨c, 1, none⟩ hcw (by simp [Value.ownBlock])).trans c1⟩)
      (first | (refine step_append_row (by rfl) (.const (.slice none 0 0)) (.tmp 45) _ (by rfl) w.heap.size 5 i0 (.int .u8 0) 1 Try.underlying22 hi hz0 hz1 hz2 rfl _ 0 [] (by rfl) (World.ownsRow_nil _ _ _ _) (by rfl) (HV.out.drewN _).drew (bval_one _) (by rw [hl.out]; unfold maxLen; omega) (by rw [hl.out]; omega) (Nat.le_refl _) ?_; intro v1 w1 hown1 hgrow1))
    have hown2 : w1.ownsRow w.heap.size 5 1 v1 0 (((([] : List UInt8).drop 0).take 0).map bval) := by
      rw [hl.out, Nat.zero_add, List.nil_append] at hown1
      exact hown1
    have hgn : w.grownBy w1 none := ⟨hgrow1.os, hgrow1.tape, hgrow1.output, hgrow1.size, hgrow1.block⟩
    have HR1 := HR.out.grown hgn (by simp)
    have hgr : w.grownBy w1 (some c) := grownBy_of_none hgn
    have k0 := HR1.cell 0
    have k1 := HR1.cell 1
    have e1 := HR1.free 1
    simp only [List.getElem?_cons_zero, List.getElem?_cons_succ] at k0 k1
    have HO := Lib.hid hown2
    have HR2 := Lib.hid HR1
    have HG := Lib.hid hgr
    clear hown1 hown2 hgrow1 hgn HR1 hgr c0 c1 c2 f1
    go_wp2_with fail
    go_ret
    refine ⟨_, rfl, ownsRow_setCell_other HO.out (Row1.own_ne HO.out hcw) _, ?_, grownBy_set HG.out 1 _⟩
    have := HR2.out.set 1 (.int .i64 0)
    unfold RCur
    simpa using this
  | some ad =>
    by_cases hc : cap = p
    · have hc2 := hc.symm
      subst hc2
      have HV : Hid (Row1 w (.slice (some ad) 0 0) (((bl.drop p).take n).map bval)) := Lib.hid (by
        have hn0 : n = 0 := by omega
        subst hn0
        simpa using Row1.empty w ad 0 (Nat.zero_le _))
      have hcw := HR.out.lt
      go_enter Try.func19, Try.ntmps19
      go_wp2_with fail
      go_quiet (fail)
      go_wp2_with fail
      go_region_held3 (fun w' => w'.cell? ⟨c, 0, none⟩ = some (.slice (some ad) bl.length p) ∧ w'.cell? ⟨c, 1, none⟩ = some (.int .i64 p))
        (first | go_keep | exact ⟨(hgrow1.cell_far ⟨c, 0, none⟩ hcw (by simp [Value.ownBlock])).trans c0, (hgrow1.cell_far ⟨c, 1, none⟩ hcw (by simp [Value.ownBlock])).trans c1⟩)
        (first | (refine step_append_row (by rfl) (.const (.slice none 0 0)) (.tmp 45) _ (by rfl) w.heap.size 5 i0 (.int .u8 0) 1 Try.underlying22 hi hz0 hz1 hz2 rfl _ 0 [] (by rfl) (World.ownsRow_nil _ _ _ _) (by rfl) (HV.out.drewN _).drew (bval_one _) (by rw [hl.out]; unfold maxLen; omega) (by rw [hl.out]; omega) (Nat.le_refl _) ?_; intro v1 w1 hown1 hgrow1))
      have hown2 : w1.ownsRow w.heap.size 5 1 v1 n (((bl.drop p).take n).map bval) := by
        rw [hl.out, Nat.zero_add, List.nil_append] at hown1
        exact hown1
      have hgn : w.grownBy w1 none := ⟨hgrow1.os, hgrow1.tape, hgrow1.output, hgrow1.size, hgrow1.block⟩
      have HR1 := HR.out.grown hgn (by simp)
      have hgr : w.grownBy w1 (some c) := grownBy_of_none hgn
      have k0 := HR1.cell 0
      have k1 := HR1.cell 1
      have e1 := HR1.free 1
      simp only [List.getElem?_cons_zero, List.getElem?_cons_succ] at k0 k1
      have HO := Lib.hid hown2
      have HR2 := Lib.hid HR1
      have HG := Lib.hid hgr
      clear hown1 hown2 hgrow1 hgn HR1 hgr c0 c1 c2 f1
      go_wp2_with fail
      go_ret
      refine ⟨_, rfl, ownsRow_setCell_other HO.out (Row1.own_ne HO.out hcw) _, ?_, grownBy_set HG.out 1 _⟩
      have := HR2.out.set 1 (.int .i64 ((p : Int) + n))
      unfold RCur
      rw [List.length_map, Int.natCast_add]
      exact this
    · have hc' : ¬ p = cap := fun e => hc e.symm
      have HV : Hid (Row1 w (.slice (some (ad.add p)) n (cap - p)) (((bl.drop p).take n).map bval)) := Lib.hid (by
        have := HB.out.sliced p n (by simp; omega)
        rw [List.map_take, List.map_drop]
        exact this)
      have hcw := HR.out.lt
      go_enter Try.func19, Try.ntmps19
      go_wp2_with fail
      go_quiet (fail)
      go_wp2_with fail
      go_region_held3 (fun w' => w'.cell? ⟨c, 0, none⟩ = some (.slice (some ad) bl.length cap) ∧ w'.cell? ⟨c, 1, none⟩ = some (.int .i64 p))
        (first | go_keep | exact ⟨(hgrow1.cell_far ⟨c, 0, none⟩ hcw (by simp [Value.ownBlock])).trans c0, (hgrow1.cell_far ⟨c, 1, none⟩ hcw (by simp [Value.ownBlock])).trans c1⟩)
        (first | (refine step_append_row (by rfl) (.const (.slice none 0 0)) (.tmp 45) _ (by rfl) w.heap.size 5 i0 (.int .u8 0) 1 Try.underlying22 hi hz0 hz1 hz2 rfl _ 0 [] (by rfl) (World.ownsRow_nil _ _ _ _) (by rfl) (HV.out.drewN _).drew (bval_one _) (by rw [hl.out]; unfold maxLen; omega) (by rw [hl.out]; omega) (Nat.le_refl _) ?_; intro v1 w1 hown1 hgrow1))
      have hown2 : w1.ownsRow w.heap.size 5 1 v1 n (((bl.drop p).take n).map bval) := by
        rw [hl.out, Nat.zero_add, List.nil_append] at hown1
        exact hown1
      have hgn : w.grownBy w1 none := ⟨hgrow1.os, hgrow1.tape, hgrow1.output, hgrow1.size, hgrow1.block⟩
      have HR1 := HR.out.grown hgn (by simp)
      have hgr : w.grownBy w1 (some c) := grownBy_of_none hgn
      have k0 := HR1.cell 0
      have k1 := HR1.cell 1
      have e1 := HR1.free 1
      simp only [List.getElem?_cons_zero, List.getElem?_cons_succ] at k0 k1
      have HO := Lib.hid hown2
      have HR2 := Lib.hid HR1
      have HG := Lib.hid hgr
      clear hown1 hown2 hgrow1 hgn HR1 hgr c0 c1 c2 f1
      go_wp2_with fail
      go_ret
      refine ⟨_, rfl, ownsRow_setCell_other HO.out (Row1.own_ne HO.out hcw) _, ?_, grownBy_set HG.out 1 _⟩
      have := HR2.out.set 1 (.int .i64 ((p : Int) + n))
      unfold RCur
      rw [List.length_map, Int.natCast_add]
      exact this

end Go.Proofs.Ytcgppiniknnjpaa
