/- The walks of package pack's cursor: a counted read of what there is; and that the cursor keeps the contracts. Each theorem names its own conditions. -/
import Derived.Test.YtcgppiniknnjpaaPackCurCode
namespace Go.Proofs.Ytcgppiniknnjpaa
open Go.RowKit
set_option linter.unusedVariables false

/-- The cursor, moved on past a count and what it counts. -/
theorem PCur.moved8 {w w' : World} {B c : Nat} {l : List UInt8} {p n : Nat} {v : Value} (h : PCur w B c l p false) (hb : Blk w' c [v, .bool false] 47) (hs : w.heap.size ≤ w'.heap.size) (ho : ∀ k, v.ownBlock = some k → k < B ∧ k ≠ c) (hr : Row1 w' v (((l.drop (p + 8)).drop n).map bval)) (hn : p + 8 + n ≤ l.length) : PCur w' B c l (p + 8 + n) false := by
  obtain ⟨v0, h1, h2, h3, h4, h5, h6, h7, h8⟩ := h
  refine ⟨v, hb, h2, Nat.le_trans h3 hs, hn, h5, ho, (fun e => by cases e), (fun _ => ?_)⟩
  rwa [List.drop_drop] at hr

theorem own_at {ad : Addr} {n len cap len' cap' B c : Nat} (h : ∀ k, (Value.slice (some ad) len cap).ownBlock = some k → k < B ∧ k ≠ c) : ∀ k, (Value.slice (some (ad.add n)) len' cap').ownBlock = some k → k < B ∧ k ≠ c := by
  intro k hk
  refine h k ?_
  rw [← hk]
  simp only [Value.ownBlock, Addr.add]
  split <;> rfl
theorem own_len {ad : Addr} {len cap len' cap' B c : Nat} (h : ∀ k, (Value.slice (some ad) len cap).ownBlock = some k → k < B ∧ k ≠ c) : ∀ k, (Value.slice (some ad) len' cap').ownBlock = some k → k < B ∧ k ≠ c := h
theorem own_not {v : Value} {B c : Nat} (h : ∀ k, v.ownBlock = some k → k < B ∧ k ≠ c) : v.ownBlock ≠ some c := fun e => (h c e).2 rfl

set_option maxHeartbeats 2000000 in
/-- read, counted, where there are as many bytes as the count says. -/
theorem preadc_yes (w : World) (B c : Nat) (l : List UInt8) (p n : Nat) (h : PCur w B c l p false) (hn : p + 8 + n ≤ l.length) (hd : decI ((l.drop p).take 8) = (n : Int)) :
    Calls Try.prog 28 #[.pointer (some ⟨c, 0, none⟩), .int .i64 0, .bool true] w fun e w' => ∃ v, e = .returned v ∧ Row1 w' v (((l.drop (p + 8)).take n).map bval) ∧ (∀ k, v.ownBlock = some k → k < B ∧ k ≠ c) ∧ PCur w' B c l (p + 8 + n) false ∧ w.grownBy w' (some c) := by
  obtain ⟨a, len, cap, g1, g2, g3, g4, g5, g6, g7, g8⟩ := h.open
  have c0 := g1.cell 0
  have c1 := g1.cell 1
  have f0 := g1.free 0
  have f1 := g1.free 1
  simp only [List.getElem?_cons_zero, List.getElem?_cons_succ] at c0 c1
  have HP := Lib.hid h
  have HG := Lib.hid g1
  obtain ⟨g9, g10, g11, g12, g13⟩ := g8 rfl
  unfold maxLen at g12
  have hnum := number_any w.drew g9.drew (by simp; omega)
  rw [hd] at hnum
  have hl8 : 8 ≤ len := by omega
  have hc8 : 8 ≤ cap := by omega
  have hl8' : (8 : Int) ≤ (len : Int) := by omega
  have hd8 : decide ((len : Int) < 8) = false := decide_eq_false (by omega)
  have hnl : n ≤ len - 8 := by omega
  have hnc : n ≤ cap - 8 := by omega
  have hd1 : decide ((n : Int) < 0) = false := decide_eq_false (by omega)
  have hd2 : decide (((len - 8 : Nat) : Int) < (n : Int)) = false := decide_eq_false (by omega)
  have hn0 : (0 : Int) ≤ (n : Int) := Int.natCast_nonneg _
  have hp8 := Lib.hid hn
  cases a with
  | none => have := g13 rfl; omega
  | some ad =>
    have HN := Lib.hid hnum
    by_cases hc : cap = 8
    · subst hc
      have hln : len = 8 := by omega
      have hnn : n = 0 := by omega
      subst hln hnn
      have e1 : l.drop (p + 8) = [] := List.drop_of_length_le (by omega)
      have HHEAD : Hid (Row1 w (.slice (some ad) 0 0) (((l.drop (p + 8)).take 0).map bval)) := Lib.hid (by rw [e1]; exact Row1.empty w ad 0 (Nat.zero_le _))
      have HREST : Hid (Row1 w (.slice (some ad) 0 0) (((l.drop (p + 8)).drop 0).map bval)) := Lib.hid (by rw [e1]; exact Row1.empty w ad 0 (Nat.zero_le _))
      have HOWN1 : Hid (∀ k, (Value.slice (some ad) 0 0).ownBlock = some k → k < B ∧ k ≠ c) := Lib.hid (own_len g6)
      have HNE1 := Lib.hid (own_not HOWN1.out)
      have HOWN2 := HOWN1
      have HNE2 := HNE1
      clear h g1 g6 g7 hn hd g8 g9 g10 g13 hnum e1
      go_enter Try.func28, Try.ntmps28
      go_wp2_with fail
      refine wp_scope_fwd 0 (by rfl) ?_
      go_wp2_with fail
      refine wp_region_still_tail 14 (by kernel_rfl) (by kernel_rfl) ?_
      simp only [List.take_succ_cons, List.take_zero, List.drop_succ_cons, List.drop_zero]
      repeat still_step
      still_call (HN.out.mono fun _ _ h => ⟨h.1, h.2.symm⟩)
      repeat still_step
      refine wpStill_nil ?_
      change wpList _ _ _ _ _ w.drew
      go_wp2_with fail
      go_region
      go_wp2_with fail
      simp only [Exit.jump]
      go_ret
      exact ⟨_, rfl, ((HHEAD.out.drew.setFar HNE1.out).drew.setFar HNE1.out), HOWN1.out, HP.out.moved8 ((((HG.out.drewN 1).set 0 _).drewN 1).set 0 _) (by simp) HOWN2.out (((HREST.out.drew.setFar HNE2.out).drew).setFar HNE2.out) hp8.out, grownBy_set (grownBy_drewN (grownBy_set (grownBy_drewN (grownBy_refl w _) 1) 0 _) 1) 0 _⟩
    · have h8 := g9.rest 8 (by simp; omega)
      rw [← List.map_drop, List.drop_drop] at h8
      have hml : n ≤ ((l.drop (p + 8)).map bval).length := by simp; omega
      have hhead := h8.head n hml
      rw [← List.map_take] at hhead
      have HHEAD := Lib.hid hhead
      have HOWN1 : Hid (∀ k, (Value.slice (some (ad.add 8)) n (cap - 8)).ownBlock = some k → k < B ∧ k ≠ c) := Lib.hid (own_at g6)
      have HNE1 := Lib.hid (own_not HOWN1.out)
      by_cases hc2 : cap - 8 = n
      · have e2 : len - 8 = n := by omega
        have HREST : Hid (Row1 w (.slice (some (ad.add 8)) 0 0) (((l.drop (p + 8)).drop n).map bval)) := Lib.hid (by
          rw [List.drop_of_length_le (by simp; omega)]
          exact Row1.empty w _ 0 (Nat.zero_le _))
        have HOWN2 : Hid (∀ k, (Value.slice (some (ad.add 8)) 0 0).ownBlock = some k → k < B ∧ k ≠ c) := Lib.hid (own_at g6)
        have HNE2 := Lib.hid (own_not HOWN2.out)
        rw [hc2] at HHEAD HOWN1 HNE1
        clear h g1 g6 g7 hn hd g8 g9 g10 g13 hnum h8 hml hhead
        go_enter Try.func28, Try.ntmps28
        go_wp2_with fail
        refine wp_scope_fwd 0 (by rfl) ?_
        go_wp2_with fail
        refine wp_region_still_tail 14 (by kernel_rfl) (by kernel_rfl) ?_
        simp only [List.take_succ_cons, List.take_zero, List.drop_succ_cons, List.drop_zero]
        repeat still_step
        still_call (HN.out.mono fun _ _ h => ⟨h.1, h.2.symm⟩)
        repeat still_step
        refine wpStill_nil ?_
        change wpList _ _ _ _ _ w.drew
        go_wp2_with fail
        go_region
        go_wp2_with fail
        simp only [Exit.jump]
        go_ret
        exact ⟨_, rfl, ((HHEAD.out.drew.setFar HNE1.out).drew.setFar HNE1.out), HOWN1.out, HP.out.moved8 ((((HG.out.drewN 1).set 0 _).drewN 1).set 0 _) (by simp) HOWN2.out (((HREST.out.drew.setFar HNE2.out).drew).setFar HNE2.out) hp8.out, grownBy_set (grownBy_drewN (grownBy_set (grownBy_drewN (grownBy_refl w _) 1) 0 _) 1) 0 _⟩
      · have hrest := h8.rest n hml
        rw [← List.map_drop] at hrest
        have HREST := Lib.hid hrest
        have HOWN2 : Hid (∀ k, (Value.slice (some ((ad.add 8).add n)) (len - 8 - n) (cap - 8 - n)).ownBlock = some k → k < B ∧ k ≠ c) := Lib.hid (own_at (own_at (len' := len) (cap' := cap) g6))
        rw [show ad.add 8 = ⟨ad.block, ad.off + 8, none⟩ from rfl, WideShapes.add_plain] at HREST HOWN2
        have HNE2 := Lib.hid (own_not HOWN2.out)
        clear h g1 g6 g7 hn hd g8 g9 g10 g13 hnum h8 hml hhead hrest
        go_enter Try.func28, Try.ntmps28
        go_wp2_with fail
        refine wp_scope_fwd 0 (by rfl) ?_
        go_wp2_with fail
        refine wp_region_still_tail 14 (by kernel_rfl) (by kernel_rfl) ?_
        simp only [List.take_succ_cons, List.take_zero, List.drop_succ_cons, List.drop_zero]
        repeat still_step
        still_call (HN.out.mono fun _ _ h => ⟨h.1, h.2.symm⟩)
        repeat still_step
        refine wpStill_nil ?_
        change wpList _ _ _ _ _ w.drew
        go_wp2_with fail
        go_region
        go_wp2_with fail
        simp only [Exit.jump]
        go_ret
        exact ⟨_, rfl, ((HHEAD.out.drew.setFar HNE1.out).drew.setFar HNE1.out), HOWN1.out, HP.out.moved8 ((((HG.out.drewN 1).set 0 _).drewN 1).set 0 _) (by simp) HOWN2.out (((HREST.out.drew.setFar HNE2.out).drew).setFar HNE2.out) hp8.out, grownBy_set (grownBy_drewN (grownBy_set (grownBy_drewN (grownBy_refl w _) 1) 0 _) 1) 0 _⟩

end Go.Proofs.Ytcgppiniknnjpaa
