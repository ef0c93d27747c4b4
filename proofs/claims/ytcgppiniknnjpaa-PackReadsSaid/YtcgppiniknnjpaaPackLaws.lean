/- The walks of the laws of chapter 2, over whatever code keeps the contracts 'IntSaid', 'BytesSaid': each returns true. -/
import Derived.Test.YtcgppiniknnjpaaPackRefB
import Derived.Test.YtcgppiniknnjpaaPackRefD
namespace Go.Proofs.Ytcgppiniknnjpaa
open Go.RowKit
set_option linter.unusedVariables false

/-- What pack.Int owes. -/
def IntSaid : Prop := ∀ (bv lv : Value) (bl : List UInt8) (ns : List Int) (w : World), Row1 w bv (bl.map bval) → Row1 w lv (ns.map (.int .i64)) → bl.length + 8 * ns.length ≤ 1099511627776 →
  Calls Try.prog 9 #[bv, lv] w fun e w' => ∃ v, e = .returned v ∧ Row1 w' v ((bl ++ be8s ns).map bval) ∧ Below w.heap.size w w'
/-- What pack.Bytes owes. -/
def BytesSaid : Prop := ∀ (bv lv : Value) (bl : List UInt8) (ls : List (List UInt8)) (w : World), Row1 w bv (bl.map bval) → RowB w lv ls → bl.length + (putL ls).length ≤ 1099511627776 →
  Calls Try.prog 10 #[bv, lv] w fun e w' => ∃ v, e = .returned v ∧ Row1 w' v ((bl ++ putL ls).map bval) ∧ Below w.heap.size w w'

theorem run_str {w : World} {v : Value} {l : List UInt8} (h : Row1 w v (l.map bval)) : (convert 22 9 v).run Try.prog w = .ok (.string ⟨l.toArray⟩) w :=
  run_string_row _ _ 5 Try.underlying22 Try.underlying5 Try.underlying9 h

theorem be8_one : be8s [1] = [0, 0, 0, 0, 0, 0, 0, 1] := by decide +kernel

set_option maxHeartbeats 400000 in
theorem alive_any (H : IntSaid) (w : World) :
    Calls Try.prog 8 #[] w fun e w' => e = .returned (.bool true) ∧ Below w.heap.size w w' := by
  have hi := Lib.hid (H _ _ [] [1] (w.alloc (.cells #[.int .i64 1] 3)) (Row1.nil _) (Row1.made w #[.int .i64 1] 3 _ 1 [.int .i64 1] rfl rfl rfl (by unfold maxLen; omega)) (by simp))
  go_enter Try.func8, Try.ntmps8
  go_wp2_with fail
  refine hi.out.mono ?_
  rintro e w1 ⟨v, rfl, h1, h2⟩
  rw [List.nil_append, be8_one] at h1
  have hs := run_str h1
  have HB := Lib.hid (((Below.refl w.heap.size w).alloc (Nat.le_refl _) _).trans (h2.mono (by simp)))
  clear h1 h2
  go_wp2_with fail
  go_ret
  exact ⟨rfl, HB.out⟩

theorem putL_len_le (ls : List (List UInt8)) (m : Nat) (h : ∀ l ∈ ls, l.length ≤ m) : (putL ls).length ≤ ls.length * (8 + m) := by
  induction ls with
  | nil => simp [putL]
  | cons l ls ih =>
    have h1 := h l (List.mem_cons_self ..)
    have h2 := ih (fun x hx => h x (List.mem_cons_of_mem _ hx))
    have e : putL (l :: ls) = be8 l.length ++ l ++ putL ls := by simp [putL]
    rw [e, List.length_append, List.length_append, be8_length, List.length_cons, Nat.succ_mul]
    omega

set_option maxRecDepth 100000 in
set_option maxHeartbeats 2000000 in
theorem packPuts_in (HI : IntSaid) (HB : BytesSaid) (ba la2 : Option Addr) (bcap ncap lcap : Nat) (na : Option Addr) (bl : List UInt8) (ns : List Int) (vals : List Value) (ls : List (List UInt8)) (w : World)
    (hb : Row1 w (.slice ba bl.length bcap) (bl.map bval)) (hn : Row1 w (.slice na ns.length ncap) (ns.map (.int .i64))) (hl : Row1 w (.slice la2 vals.length lcap) vals) (hvl : vals.length = ls.length)
    (hv : ∀ (i : Nat) (x : Value) (l : List UInt8), vals[i]? = some x → ls[i]? = some l → Row1 w x (l.map bval))
    (g1 : bl.length ≤ 1000) (g2 : ns.length ≤ 100) (g3 : vals.length ≤ 50) (m1 : bl.length ≤ bcap) (m2 : bcap ≤ maxLen) (m3 : ns.length ≤ ncap) (m4 : ncap ≤ maxLen) (m5 : vals.length ≤ lcap) (m6 : lcap ≤ maxLen) :
    Calls Try.prog 3 #[.slice ba bl.length bcap, .slice na ns.length ncap, .slice la2 vals.length lcap] w fun e w' => e = .returned (.bool true) ∧ Below w.heap.size w w' := by
  unfold maxLen at m2 m4 m6
  obtain ⟨i0, hi, hz0, hz1, hz2⟩ := info_parts Try.info5
  have HBV := Lib.hid hb
  have HNV := Lib.hid hn
  have HLV := Lib.hid hl
  have HVL := Lib.hid hvl
  have HV := Lib.hid hv
  clear hb hn hl hvl hv
  have d1 : decide ((1000 : Int) < (bl.length : Int)) = false := decide_eq_false (by omega)
  have d2 : decide ((100 : Int) < (ns.length : Int)) = false := decide_eq_false (by omega)
  have d3 : decide ((50 : Int) < (vals.length : Int)) = false := decide_eq_false (by omega)
  go_enter Try.func3, Try.ntmps3
  go_wp2_with fail
  refine (alive_any HI _).mono ?_
  rintro e w1 ⟨rfl, hb1⟩
  have HB1 := Lib.hid hb1
  clear hb1
  go_wp2_with fail
  go_loop [8] (fun i => ∃ k : Nat, k ≤ vals.length ∧ i = .int .i64 k ∧ ∀ j, j < k → (ls.getD j []).length ≤ 1000) (fun i => vals.length - (intOf i).toNat)
  case atStart => exact ⟨0, Nat.zero_le _, rfl, fun j hj => by omega⟩
  case round =>
    obtain ⟨k, hk, rfl, hall⟩ := hrel
    have HALL := Lib.hid hall
    clear hall
    by_cases hlt : k < vals.length
    · have hvl := HVL.out
      have hvk : vals[k]? = some (vals[k]'(by omega)) := List.getElem?_eq_getElem _
      have hlk : ls[k]? = some (ls[k]'(by omega)) := List.getElem?_eq_getElem _
      have hg : ls.getD k [] = ls[k]'(by omega) := by simp [List.getD, show k < ls.length from by omega]
      have hrow := HV.out k _ _ hvk hlk
      obtain ⟨a, lcap', e1, _, _, _, h4⟩ := HLV.out
      cases e1
      obtain ⟨b, off, rfl, hbw, hc⟩ := h4 (by intro e; rw [e] at hlt; exact absurd hlt (by simp))
      have c1 := HB1.out.cell (p := ⟨b, off + k, none⟩) hbw
      rw [hc k hlt, hvk] at c1
      generalize ls[k]'(by omega) = l at *
      generalize vals[k]'(by omega) = xv at *
      obtain ⟨xa, xcap, rfl, lc1, lc2, lc3, lc4⟩ := hrow
      rw [List.length_map] at c1 lc1
      have i0' : (0 : Int) ≤ (k : Int) := Int.natCast_nonneg _
      have i1 : (k : Int) < (vals.length : Int) := by omega
      have HG := Lib.hid hg
      clear hvl hvk hlk hg hc h4 lc3 lc4
      by_cases hlong : 1000 < l.length
      · go_wp2_with fail
        go_ret
        exact ⟨rfl, HB1.out⟩
      · have hall2 : Hid (∀ j, j < k + 1 → (ls.getD j []).length ≤ 1000) := Lib.hid fun j hj => by
          rcases Nat.lt_or_ge j k with h | h
          · exact HALL.out j h
          · have : j = k := by omega
            subst this
            rw [HG.out]
            omega
        have hshort : l.length ≤ 1000 := by omega
        clear hlong
        go_wp2_with fail
        go_round
        case rel => exact ⟨k + 1, by omega, by go_num, hall2.out⟩
        case measure => simp [intOf]; omega
    · have hk' : k = vals.length := by omega
      subst hk'
      have hvl := HVL.out
      have hsum : (putL ls).length ≤ 50 * 1008 := by
        have := putL_len_le ls 1000 (fun l hl => by
          obtain ⟨j, hj, rfl⟩ := List.getElem_of_mem hl
          have := HALL.out j (by omega)
          simpa [List.getD, hj] using this)
        have h2 : ls.length * (8 + 1000) ≤ 50 * (8 + 1000) := Nat.mul_le_mul_right _ (by omega)
        exact Nat.le_trans this h2
      clear hvl
      obtain ⟨wm, hmk, hmo, hmg⟩ := run_make_own (P := Try.prog) w1 w1.heap.size 22 5 i0 (.int .u8 0) 1 Try.underlying22 hi hz0 hz1 .i64 .i64 (bl.length + 100) (by rw [hz2]; omega) (by unfold maxLen; omega) (Nat.le_refl _)
      rw [show ((bl.length + 100 : Nat) : Int) = (bl.length : Int) + 100 from by omega] at hmk
      have hrb : Row1 wm (.slice ba bl.length bcap) (bl.map bval) := (HBV.out.below HB1.out).grown hmg (fun k hk => by cases hk)
      have HMO := Lib.hid hmo
      have HMG := Lib.hid hmg
      have HRB := Lib.hid hrb
      have hbl : Hid ((bl.map bval).length = bl.length) := Lib.hid (by simp)
      clear hmo hmg hrb
      go_wp2_with (at_builtin; refine wpList_append_row rfl _ _ 22 rfl w1.heap.size 5 i0 (.int .u8 0) 1 Try.underlying22 hi hz0 hz1 hz2 rfl _ 0 [] rfl HMO.out rfl HRB.out (bval_one _) (by rw [hbl.out]; unfold maxLen; omega) (by rw [hbl.out]; omega) HMG.out.size ?_; intro v2 w2 hown2 hgrow2)
      have hrx : Row1 w2 v2 (bl.map bval) := by
        rw [List.nil_append] at hown2
        exact Row1.of_own hown2
      have hb2 : Below w1.heap.size w1 w2 := ((Below.refl _ _).grown HMG.out (Nat.le_refl _) (fun r hr => by cases hr)).grown hgrow2 HMG.out.size (fun r hr => (HMO.out.lt r hr).1)
      have hb3 : Below w.heap.size w w2 := HB1.out.trans (hb2.mono HB1.out.size)
      have HI1 := Lib.hid (HI _ _ bl ns w2 hrx (HNV.out.below hb3) (by omega))
      have HRX := Lib.hid hrx
      have HB3 := Lib.hid hb3
      clear hown2 hgrow2 hrx hb2 hb3
      go_wp2_with fail
      refine HI1.out.mono ?_
      rintro e w3 ⟨v3, rfl, hr3, hb4⟩
      have hb5 := HB3.out.trans (hb4.mono HB3.out.size)
      have HRX3 := Lib.hid (HRX.out.below hb4)
      have HL3 : Hid (RowB w3 (.slice la2 vals.length lcap) ls) := Lib.hid (RowB.below (⟨vals, HLV.out, HVL.out, HV.out⟩ : RowB w _ ls) hb5)
      have HI2 := Lib.hid (HB _ _ bl ls w3 HRX3.out HL3.out (by omega))
      have HP := Lib.hid hr3
      have HB5 := Lib.hid hb5
      clear hr3 hb4 hb5
      go_wp2_with fail
      refine HI2.out.mono ?_
      rintro e w4 ⟨v4, rfl, hq4, hb6⟩
      have HX4 := Lib.hid (HRX3.out.below hb6)
      have HP4 := Lib.hid (HP.out.below hb6)
      have HQ4 := Lib.hid hq4
      have HB6 := Lib.hid (HB5.out.trans (hb6.mono HB5.out.size))
      clear hq4 hb6
      have HBV4 := Lib.hid (HBV.out.below HB6.out)
      have HNV4 := Lib.hid (HNV.out.below HB6.out)
      have HL4 : Hid (RowB w4 (.slice la2 vals.length lcap) ls) := Lib.hid (RowB.below (⟨vals, HLV.out, HVL.out, HV.out⟩ : RowB w _ ls) HB6.out)
      have RI := Lib.hid (rint_any w4.drew HBV4.out.drew HNV4.out.drew (by omega))
      go_wp2_with fail
      go_region_held (fun w' => (convert 22 9 v3).run Try.prog w' = .ok (.string ⟨(bl ++ be8s ns).toArray⟩) w' ∧ (convert 22 9 v4).run Try.prog w' = .ok (.string ⟨(bl ++ putL ls).toArray⟩) w' ∧ (convert 22 9 v2).run Try.prog w' = .ok (.string ⟨bl.toArray⟩) w' ∧ (convert 22 9 (.slice ba bl.length bcap)).run Try.prog w' = .ok (.string ⟨bl.toArray⟩) w')
        (first | assumption | exact ⟨run_str HP4.out.drew, run_str HQ4.out.drew, run_str HX4.out.drew, run_str HBV4.out.drew⟩ | exact ⟨run_str (HP4.out.drew.below hA), run_str (HQ4.out.drew.below hA), run_str (HX4.out.drew.below hA), run_str (HBV4.out.drew.below hA)⟩ | exact ⟨run_str ((HP4.out.drew.below hA).below hC), run_str ((HQ4.out.drew.below hA).below hC), run_str ((HX4.out.drew.below hA).below hC), run_str ((HBV4.out.drew.below hA).below hC)⟩)
        (first | (go_at_call 11; (with_reducible refine RI.out.mono ?_); rintro e wA ⟨vA, rfl, hoA, hA⟩; have esA := run_str (Row1.of_own hoA)) | (go_at_call 12; (with_reducible refine (rbytes_any wA (HBV4.out.drew.below hA) (HL4.out.drew.below hA) (by omega)).mono ?_); rintro e wC ⟨vC, rfl, hoC, hC⟩; have esC := run_str (Row1.of_own hoC)))
      have HA := Lib.hid hA
      have HC := Lib.hid hC
      clear hA hC
      go_wp2_with fail
      go_ret
      exact ⟨rfl, HB6.out.trans ((((Below.refl w4.heap.size w4).drew.trans HA.out).trans (HC.out.mono HA.out.size)).mono HB6.out.size)⟩

set_option maxHeartbeats 400000 in
theorem packPuts_out (HI : IntSaid) (ba na la : Option Addr) (bn bcap nn ncap ln lcap : Nat) (w : World) (m1 : bn ≤ bcap) (m2 : bcap ≤ maxLen) (m3 : nn ≤ ncap) (m4 : ncap ≤ maxLen) (m5 : ln ≤ lcap) (m6 : lcap ≤ maxLen)
    (h : ¬ (bn ≤ 1000 ∧ nn ≤ 100 ∧ ln ≤ 50)) :
    Calls Try.prog 3 #[.slice ba bn bcap, .slice na nn ncap, .slice la ln lcap] w fun e w' => e = .returned (.bool true) ∧ Below w.heap.size w w' := by
  unfold maxLen at m2 m4 m6
  have hc : 1000 < bn ∨ (bn ≤ 1000 ∧ 100 < nn) ∨ (bn ≤ 1000 ∧ nn ≤ 100 ∧ 50 < ln) := by omega
  clear h
  rcases hc with h1 | ⟨h1, h2⟩ | ⟨h1, h2, h3⟩
  all_goals
    go_enter Try.func3, Try.ntmps3
    go_wp2_with fail
    refine (alive_any HI _).mono ?_
    rintro e w1 ⟨rfl, hb1⟩
    have HB1 := Lib.hid hb1
    clear hb1
    go_wp2_with fail
    go_ret
    exact ⟨rfl, HB1.out⟩

theorem packPuts_any (HI : IntSaid) (HB : BytesSaid) {bv nv lv : Value} {bl : List UInt8} {ns : List Int} {ls : List (List UInt8)} (w : World) (hb : Row1 w bv (bl.map bval)) (hn : Row1 w nv (ns.map (.int .i64))) (hl : RowB w lv ls) :
    Calls Try.prog 3 #[bv, nv, lv] w fun e w' => e = .returned (.bool true) ∧ Below w.heap.size w w' := by
  obtain ⟨vals, hl1, hl2, hl3⟩ := hl
  have hb' := hb
  have hn' := hn
  have hl' := hl1
  obtain ⟨ba, bcap, rfl, m1, m2, _, _⟩ := hb'
  obtain ⟨na, ncap, rfl, m3, m4, _, _⟩ := hn'
  obtain ⟨la, lcap, rfl, m5, m6, _, _⟩ := hl'
  rw [List.length_map] at m1 m3 hb hn ⊢
  rw [List.length_map]
  by_cases h : bl.length ≤ 1000 ∧ ns.length ≤ 100 ∧ vals.length ≤ 50
  · exact packPuts_in HI HB ba la bcap ncap lcap na bl ns vals ls w hb hn hl1 hl2 hl3 h.1 h.2.1 h.2.2 m1 m2 m3 m4 m5 m6
  · exact packPuts_out HI ba na la _ bcap _ ncap _ lcap w m1 m2 m3 m4 m5 m6 h

end Go.Proofs.Ytcgppiniknnjpaa
