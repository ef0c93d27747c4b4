/- The walks of the document's own encoding of byte strings. Each theorem names its own conditions. -/
import Derived.Test.YtcgppiniknnjpaaPackRef
namespace Go.Proofs.Ytcgppiniknnjpaa
open Go.RowKit
set_option linter.unusedVariables false

/-- The byte strings' bytes: each one's length, and itself. -/
def putL (ls : List (List UInt8)) : List UInt8 := ls.flatMap fun l => be8 l.length ++ l
theorem putL_snoc (ls : List (List UInt8)) (l : List UInt8) : putL (ls ++ [l]) = putL ls ++ (be8 l.length ++ l) := by simp [putL]
theorem putL_take_le (ls : List (List UInt8)) (k : Nat) : (putL (ls.take k)).length ≤ (putL ls).length := by
  have e : putL ls = putL (ls.take k) ++ putL (ls.drop k) := by
    unfold putL
    rw [← List.flatMap_append, List.take_append_drop]
  rw [e, List.length_append]
  omega
theorem putL_take_succ {ls : List (List UInt8)} {k : Nat} (h : k < ls.length) : putL (ls.take (k + 1)) = putL (ls.take k) ++ (be8 (ls[k]).length ++ ls[k]) := by
  rw [List.take_succ_eq_append_getElem h, putL_snoc]

set_option maxHeartbeats 2000000 in
theorem rbytes_loop (bv : Value) (bl : List UInt8) (b off cap n : Nat) (vals : List Value) (ls : List (List UInt8)) (w : World) (hb : Row1 w bv (bl.map bval)) (hn : vals.length = n) (hn2 : ls.length = n) (hn0 : 0 < n) (hcap : n ≤ cap) (hm : cap ≤ maxLen) (hbw : b < w.heap.size)
    (hx : ∀ i, i < n → w.cell? ⟨b, off + i, none⟩ = vals[i]?) (hv : ∀ (i : Nat) (x : Value) (l : List UInt8), vals[i]? = some x → ls[i]? = some l → Row1 w x (l.map bval))
    (hsz : bl.length + (putL ls).length ≤ 1099511627776) :
    Calls Try.prog 12 #[bv, .slice (some ⟨b, off, none⟩) n cap] w fun e w' => ∃ v, e = .returned v ∧ w'.ownsRow w.heap.size 5 1 v (bl.length + (putL ls).length) ((bl ++ putL ls).map bval) ∧ Below w.heap.size w w' := by
  unfold maxLen at hm
  obtain ⟨i0, hi, hz0, hz1, hz2⟩ := info_parts Try.info5
  have HX := Lib.hid hx
  have HN := Lib.hid hn
  have HN2 := Lib.hid hn2
  have HV := Lib.hid hv
  have HB := Lib.hid hb
  have hbl : Hid ((bl.map bval).length = bl.length) := Lib.hid (by simp)
  clear hx hn hn2 hb hv
  go_enter Try.func12, Try.ntmps12
  go_wp2_with (at_builtin; refine wpList_append_row rfl _ _ 22 rfl w.heap.size 5 i0 (.int .u8 0) 1 Try.underlying22 hi hz0 hz1 hz2 rfl _ 0 [] rfl (World.ownsRow_nil _ _ _ _) rfl HB.out (bval_one _) (by rw [hbl.out]; unfold maxLen; omega) (by rw [hbl.out]; omega) (Nat.le_refl _) ?_; intro v1 w1 hown1 hgrow1)
  have hown0 : w1.ownsRow w.heap.size 5 1 v1 (bl.length + (putL (ls.take 0)).length) ((bl ++ putL (ls.take 0)).map bval) := by
    have e : 0 + (bl.map bval).length = bl.length + (putL (ls.take 0)).length := by simp [putL]
    rw [e, List.nil_append] at hown1
    simpa [putL] using hown1
  have hbel0 : Below w.heap.size w w1 := (Below.refl _ _).grown hgrow1 (Nat.le_refl _) (fun r hr => by cases hr)
  clear hown1 hgrow1
  have HO0 := Lib.hid hown0
  have HB0 := Lib.hid hbel0
  clear hown0 hbel0
  go_loopw [5, 6] (fun v i wr => ∃ k : Nat, k ≤ n ∧ i = .int .i64 k ∧ wr.ownsRow w.heap.size 5 1 v (bl.length + (putL (ls.take k)).length) ((bl ++ putL (ls.take k)).map bval) ∧ Below w.heap.size w wr) (fun _ i _ => n - (intOf i).toNat)
  case atStart => exact ⟨0, Nat.zero_le _, rfl, HO0.out, HB0.out⟩
  case round =>
    obtain ⟨k, hk, rfl, hown, hbel⟩ := hrel
    by_cases hlt : k < n
    · have hn := HN.out
      have hn2 := HN2.out
      have hpl := putL_take_succ (ls := ls) (k := k) (by omega)
      have hple := putL_take_le ls (k + 1)
      have hvk : vals[k]? = some (vals[k]'(by omega)) := List.getElem?_eq_getElem _
      have hlk : ls[k]? = some (ls[k]'(by omega)) := List.getElem?_eq_getElem _
      have hrow := HV.out k _ _ hvk hlk
      have c1 := hbel.cell (p := ⟨b, off + k, none⟩) hbw
      rw [HX.out k hlt, hvk] at c1
      generalize ls[k]'(by omega) = l at *
      generalize vals[k]'(by omega) = xv at *
      obtain ⟨la, lcap, rfl, lc1, lc2, lc3, lc4⟩ := id hrow
      have i0' : (0 : Int) ≤ (k : Int) := Int.natCast_nonneg _
      have i1 : (k : Int) < (n : Int) := by omega
      have hsz2 := hbel.size
      have hsl : bl.length + (putL (ls.take k)).length + 8 + l.length ≤ 1099511627776 := by
        rw [hpl] at hple
        simp only [List.length_append, be8_length] at hple
        omega
      have bbw := World.block_lt_of_cell? wr _ c1
      have HO := Lib.hid hown
      have HBE := Lib.hid hbel
      have HROW := Lib.hid hrow
      have HPL := Lib.hid hpl
      clear hn hn2 hpl hple hvk hlk hrow hown hbel lc4 lc3
      rw [List.length_map] at lc1 c1 HROW
      have hb8 : Hid (((be8 l.length).map bval).length = 8) := Lib.hid rfl
      have hbL : Hid ((l.map bval).length = l.length) := Lib.hid (by simp)
      go_wp2_with fail
      go_region_held3 (fun w' => w'.cell? ⟨b, off + k, none⟩ = some (.slice la l.length lcap))
        (first | go_keep | exact ((hbelA.cell (p := ⟨b, off + k, none⟩) bbw).trans c1) | exact ((hgrowB.cell_far ⟨b, off + k, none⟩ (Nat.lt_of_lt_of_le bbw hbelA.size) (fun e => absurd ((HO.out.lt b e.symm).1) (Nat.not_le.2 hbw))).trans ((hbelA.cell (p := ⟨b, off + k, none⟩) bbw).trans c1)) | exact ((hgrowC.cell_far ⟨b, off + k, none⟩ (Nat.lt_of_lt_of_le bbw (Nat.le_trans hbelA.size hgrowB.size)) (fun e => absurd ((hownB.lt b e.symm).1) (Nat.not_le.2 hbw))).trans ((hgrowB.cell_far ⟨b, off + k, none⟩ (Nat.lt_of_lt_of_le bbw hbelA.size) (fun e => absurd ((HO.out.lt b e.symm).1) (Nat.not_le.2 hbw))).trans ((hbelA.cell (p := ⟨b, off + k, none⟩) bbw).trans c1))))
        (first | (go_at_call 27; (with_reducible refine (rone_any _ _).mono ?_); rintro e wA ⟨v2, rfl, hown2, hbelA⟩) | (refine step_append_row (by rfl) (.tmp 15) (.tmp 21) _ (by rfl) w.heap.size 5 i0 (.int .u8 0) 1 Try.underlying22 hi hz0 hz1 hz2 rfl _ (bl.length + (putL (ls.take k)).length) _ (by rfl) (own_below HO.out.drew hbelA) (by rfl) (Row1.of_own hown2) (bval_one _) (by rw [hb8.out]; unfold maxLen; omega) (by rw [hb8.out]; omega) (Nat.le_trans hsz2 hbelA.size) ?_; intro vB wB hownB hgrowB) | (refine step_append_row (by rfl) (.tmp 22) (.tmp 26) _ (by rfl) w.heap.size 5 i0 (.int .u8 0) 1 Try.underlying22 hi hz0 hz1 hz2 rfl _ (bl.length + (putL (ls.take k)).length + ((be8 l.length).map bval).length) _ (by rfl) hownB (by rfl) (HROW.out.below (((HBE.out.drew).trans (hbelA.mono hsz2)).grown hgrowB (Nat.le_trans hsz2 hbelA.size) (fun r hr => (HO.out.lt r hr).1))) (bval_one _) (by rw [hb8.out, hbL.out]; unfold maxLen; omega) (by rw [hb8.out, hbL.out]; omega) (Nat.le_trans hsz2 (Nat.le_trans hbelA.size hgrowB.size)) ?_; intro vC wC hownC hgrowC))
      have hown3 : wC.ownsRow w.heap.size 5 1 vC (bl.length + (putL (ls.take (k + 1))).length) ((bl ++ putL (ls.take (k + 1))).map bval) := by
        rw [HPL.out]
        have e1 : bl.length + (putL (ls.take k) ++ (be8 l.length ++ l)).length = bl.length + (putL (ls.take k)).length + ((be8 l.length).map bval).length + (l.map bval).length := by
          simp only [List.length_append, List.length_map]; omega
        have e2 : (bl ++ (putL (ls.take k) ++ (be8 l.length ++ l))).map bval = (bl ++ putL (ls.take k)).map bval ++ (be8 l.length).map bval ++ l.map bval := by
          simp only [List.map_append, List.append_assoc]
        rw [e1, e2]
        exact hownC
      have hbel3 : Below w.heap.size w wC := (((HBE.out.drew).trans (hbelA.mono hsz2)).grown hgrowB (Nat.le_trans hsz2 hbelA.size) (fun r hr => (HO.out.lt r hr).1)).grown hgrowC (Nat.le_trans hsz2 (Nat.le_trans hbelA.size hgrowB.size)) (fun r hr => (hownB.lt r hr).1)
      have HO3 := Lib.hid hown3
      have HB3 := Lib.hid hbel3
      clear hown3 hbel3 hownC hgrowC hownB hgrowB hown2 hbelA
      go_wp2_with fail
      go_roundw
      case rel => exact ⟨k + 1, by omega, by go_num, HO3.out, HB3.out⟩
      case measure => simp [intOf]; omega
    · have hk' : k = n := by omega
      subst hk'
      have hn2 := HN2.out
      rw [List.take_of_length_le (by omega)] at hown
      have HO := Lib.hid hown
      have HBE := Lib.hid hbel
      clear hown hbel hn2
      go_wp2_with fail
      go_ret
      exact ⟨_, rfl, HO.out, HBE.out⟩

set_option maxHeartbeats 400000 in
theorem rbytes_none (bv : Value) (bl : List UInt8) (a : Option Addr) (cap : Nat) (w : World) (hb : Row1 w bv (bl.map bval)) (hsz : bl.length ≤ 1099511627776) (hm : cap ≤ maxLen) :
    Calls Try.prog 12 #[bv, .slice a 0 cap] w fun e w' => ∃ v, e = .returned v ∧ w'.ownsRow w.heap.size 5 1 v bl.length (bl.map bval) ∧ Below w.heap.size w w' := by
  unfold maxLen at hm
  obtain ⟨i0, hi, hz0, hz1, hz2⟩ := info_parts Try.info5
  have HB := Lib.hid hb
  have hbl : Hid ((bl.map bval).length = bl.length) := Lib.hid (by simp)
  clear hb
  go_enter Try.func12, Try.ntmps12
  go_wp2_with (at_builtin; refine wpList_append_row rfl _ _ 22 rfl w.heap.size 5 i0 (.int .u8 0) 1 Try.underlying22 hi hz0 hz1 hz2 rfl _ 0 [] rfl (World.ownsRow_nil _ _ _ _) rfl HB.out (bval_one _) (by rw [hbl.out]; unfold maxLen; omega) (by rw [hbl.out]; omega) (Nat.le_refl _) ?_; intro v1 w1 hown1 hgrow1)
  have hown0 : w1.ownsRow w.heap.size 5 1 v1 bl.length (bl.map bval) := by
    have e : 0 + (bl.map bval).length = bl.length := by simp
    rw [e, List.nil_append] at hown1
    exact hown1
  have hbel0 : Below w.heap.size w w1 := (Below.refl _ _).grown hgrow1 (Nat.le_refl _) (fun r hr => by cases hr)
  clear hown1 hgrow1
  have HO0 := Lib.hid hown0
  have HB0 := Lib.hid hbel0
  clear hown0 hbel0
  refine wp_loop_rounds 1 ?_
  rw [rounds_succ]
  go_wp2_with fail
  go_ret
  exact ⟨_, rfl, HO0.out, HB0.out⟩

/-- The document's own Bytes: the bytes and the byte strings' bytes behind them, in a row of the call's own. -/
theorem rbytes_any {bv lv : Value} {bl : List UInt8} {ls : List (List UInt8)} (w : World) (hb : Row1 w bv (bl.map bval)) (hl : RowB w lv ls) (hsz : bl.length + (putL ls).length ≤ 1099511627776) :
    Calls Try.prog 12 #[bv, lv] w fun e w' => ∃ v, e = .returned v ∧ w'.ownsRow w.heap.size 5 1 v (bl.length + (putL ls).length) ((bl ++ putL ls).map bval) ∧ Below w.heap.size w w' := by
  obtain ⟨vals, ⟨a, cap, rfl, h1, h2, h3, h4⟩, h5, h6⟩ := hl
  by_cases h0 : vals = []
  · subst h0
    have : ls = [] := List.eq_nil_of_length_eq_zero (by simpa using h5.symm)
    subst this
    have := rbytes_none bv bl a cap w hb (by omega) h2
    simpa [putL] using this
  · obtain ⟨b, off, rfl, hbw, hc⟩ := h4 h0
    exact rbytes_loop bv bl b off cap vals.length vals ls w hb rfl h5.symm (List.length_pos_iff.2 h0) h1 h2 hbw hc h6 hsz

end Go.Proofs.Ytcgppiniknnjpaa
