/- The walk of the law PackBack, over whatever keeps the contracts: true. -/
import Derived.Test.YtcgppiniknnjpaaPackCur
import Derived.OpenShut
namespace Go.Proofs.Ytcgppiniknnjpaa
open Go.RowKit
set_option linter.unusedVariables false
variable {PC : World → Nat → Nat → List UInt8 → Nat → Bool → Prop}

set_option maxRecDepth 100000 in
set_option maxHeartbeats 4000000 in
theorem packBack_in (HI : IntSaid) (HB : BytesSaid) (C : CurSaid PC) (la2 : Option Addr) (ncap lcap : Nat) (na : Option Addr) (ns : List Int) (vals : List Value) (ls : List (List UInt8)) (w : World)
    (hn : Row1 w (.slice na ns.length ncap) (ns.map (.int .i64))) (hwf : ∀ n ∈ ns, (Lit.int .i64 n).wf = true) (hl : Row1 w (.slice la2 vals.length lcap) vals) (hvl : vals.length = ls.length)
    (hv : ∀ (i : Nat) (x : Value) (l : List UInt8), vals[i]? = some x → ls[i]? = some l → Row1 w x (l.map bval))
    (g2 : ns.length ≤ 60) (g3 : vals.length ≤ 60) (m3 : ns.length ≤ ncap) (m4 : ncap ≤ maxLen) (m5 : vals.length ≤ lcap) (m6 : lcap ≤ maxLen) :
    Calls Try.prog 5 #[.slice na ns.length ncap, .slice la2 vals.length lcap] w fun e w' => e = .returned (.bool true) ∧ Below w.heap.size w w' := by
  unfold maxLen at m4 m6
  have HNV := Lib.hid hn
  have HLV := Lib.hid hl
  have HVL := Lib.hid hvl
  have HV := Lib.hid hv
  have HWF := Lib.hid hwf
  clear hn hl hvl hv hwf
  have d2 : decide ((60 : Int) < (ns.length : Int)) = false := decide_eq_false (by omega)
  have d3 : decide ((60 : Int) < (vals.length : Int)) = false := decide_eq_false (by omega)
  go_enter Try.func5, Try.ntmps5
  go_wp2_with fail
  refine (alive_any HI _).mono ?_
  rintro e w1 ⟨rfl, hb1⟩
  have HB1 := Lib.hid hb1
  clear hb1
  go_wp2_with fail
  go_loop [6] (fun i => ∃ k : Nat, k ≤ vals.length ∧ i = .int .i64 k ∧ ∀ j, j < k → (ls.getD j []).length ≤ 300) (fun i => vals.length - (intOf i).toNat)
  case atStart => exact ⟨0, Nat.zero_le _, rfl, fun j hj => by omega⟩
  case round =>
    obtain ⟨k, hk, rfl, hall⟩ := hrel
    have HALL := Lib.hid hall
    clear hall
    by_cases hlt : k < vals.length
    · have hvl := HVL.out
      have hvk : vals[k]? = some (vals[k]'(by omega)) := List.getElem?_eq_getElem _
      have hlk : ls[k]? = some (ls[k]'(by omega)) := List.getElem?_eq_getElem _
      have hg : ls.getD k [] = ls[k]'(by omega) := by simp [List.getD, show k < ls.length from by omega]
      have hrow := HV.out k _ _ hvk hlk
      obtain ⟨a, lcap', e1, _, _, _, h4⟩ := HLV.out
      cases e1
      obtain ⟨b, off, rfl, hbw, hc⟩ := h4 (by intro e; rw [e] at hlt; exact absurd hlt (by simp))
      have c1 := HB1.out.cell (p := ⟨b, off + k, none⟩) hbw
      rw [hc k hlt, hvk] at c1
      generalize ls[k]'(by omega) = l at *
      generalize vals[k]'(by omega) = xv at *
      obtain ⟨xa, xcap, rfl, lc1, lc2, lc3, lc4⟩ := hrow
      rw [List.length_map] at c1 lc1
      have i0' : (0 : Int) ≤ (k : Int) := Int.natCast_nonneg _
      have i1 : (k : Int) < (vals.length : Int) := by omega
      have HG := Lib.hid hg
      clear hvl hvk hlk hg hc h4 lc3 lc4
      by_cases hlong : 300 < l.length
      · go_wp2_with fail
        go_ret
        exact ⟨rfl, HB1.out⟩
      · have hall2 : Hid (∀ j, j < k + 1 → (ls.getD j []).length ≤ 300) := Lib.hid fun j hj => by
          rcases Nat.lt_or_ge j k with h | h
          · exact HALL.out j h
          · have : j = k := by omega
            subst this
            rw [HG.out]
            omega
        have hshort : l.length ≤ 300 := by omega
        clear hlong
        go_wp2_with fail
        go_round
        case rel => exact ⟨k + 1, by omega, by go_num, hall2.out⟩
        case measure => simp [intOf]; omega
    · have hk' : k = vals.length := by omega
      subst hk'
      have hvl := HVL.out
      have hsum : (putL ls).length ≤ 60 * 308 := by
        have := putL_len_le ls 300 (fun l hl => by
          obtain ⟨j, hj, rfl⟩ := List.getElem_of_mem hl
          have := HALL.out j (by omega)
          simpa [List.getD, hj] using this)
        have h2 : ls.length * (8 + 300) ≤ 60 * (8 + 300) := Nat.mul_le_mul_right _ (by omega)
        exact Nat.le_trans this h2
      clear hvl
      have HI1 := Lib.hid (HI _ _ [] ns w1 (Row1.nil _) (HNV.out.below HB1.out) (by simp; omega))
      go_wp2_with fail
      refine HI1.out.mono ?_
      rintro e w2 ⟨v2, rfl, hr2, hb2⟩
      rw [List.nil_append] at hr2
      have HB2 := Lib.hid (HB1.out.trans (hb2.mono HB1.out.size))
      have HI2 := Lib.hid (HB _ _ (be8s ns) ls w2 hr2 (RowB.below (⟨vals, HLV.out, HVL.out, HV.out⟩ : RowB w (.slice la2 vals.length lcap) ls) HB2.out) (by rw [be8s_length]; omega))
      clear hr2 hb2
      go_wp2_with fail
      refine HI2.out.mono ?_
      rintro e w3 ⟨v3, rfl, hr3, hb3⟩
      have HB3 := Lib.hid (HB2.out.trans (hb3.mono HB2.out.size))
      have HLEN : Hid ((be8s ns ++ putL ls).length = 8 * ns.length + (putL ls).length) := Lib.hid (by rw [List.length_append, be8s_length])
      have HI3 := Lib.hid (C.new v3 (be8s ns ++ putL ls) w3 hr3 (by rw [HLEN.out]; omega))
      clear hr3 hb3
      go_wp2_with fail
      refine HI3.out.mono ?_
      rintro e w4 ⟨B, c, rfl, hpc, hcw, hb4⟩
      have HB4 := Lib.hid (HB3.out.trans (hb4.mono HB3.out.size))
      have hcw' : w.heap.size ≤ c := Nat.le_trans HB3.out.size hcw
      have HP := Lib.hid hpc
      clear hpc hb4 hcw
      go_wp2_with fail
      go_loopw [8] (fun i wr => ∃ k : Nat, k ≤ ns.length ∧ i = .int .i64 k ∧ PC wr B c (be8s ns ++ putL ls) (8 * k) false ∧ Below w.heap.size w wr) (fun i _ => ns.length - (intOf i).toNat)
      case atStart => exact ⟨0, Nat.zero_le _, rfl, HP.out, HB4.out⟩
      case round =>
        obtain ⟨k, hk, rfl, hpc, hbel⟩ := hrel
        by_cases hlt : k < ns.length
        · obtain ⟨a, cap, e1, _, _, _, h4⟩ := HNV.out
          rw [List.length_map] at e1
          cases e1
          obtain ⟨b, off, rfl, hbw, hc⟩ := h4 (by intro e; rw [List.map_eq_nil_iff.1 e] at hlt; exact absurd hlt (Nat.not_lt_zero _))
          have c1 := hbel.cell (p := ⟨b, off + k, none⟩) hbw
          rw [hc k (by simpa using hlt), List.getElem?_map, List.getElem?_eq_getElem hlt, Option.map_some] at c1
          have hnb := bounds_i64 (HWF.out _ (List.getElem_mem hlt))
          have hat : decI (((be8s ns ++ putL ls).drop (8 * k)).take 8) = ns[k] := by rw [be8s_at ns k hlt, decI_be8 _ hnb.1 hnb.2]
          have hple : 8 * k + 8 ≤ (be8s ns ++ putL ls).length := by rw [HLEN.out]; omega
          have hci := Lib.hid (C.int_yes wr.drew B c (be8s ns ++ putL ls) (8 * k) (C.below hpc (Below.refl _ _).drew) hple)
          rw [hat] at hci
          generalize ns[k] = x at *
          have i0' : (0 : Int) ≤ (k : Int) := Int.natCast_nonneg _
          have i1 : (k : Int) < (ns.length : Int) := by omega
          have hbc : b < wr.heap.size := Nat.lt_of_lt_of_le hbw hbel.size
          have hbne : b ≠ c := by omega
          have HPC := Lib.hid hpc
          have HBE := Lib.hid hbel
          clear hat hple hpc hbel hc h4 hnb
          go_wp2_with fail
          go_region_held3 (fun w' => w'.cell? ⟨b, off + k, none⟩ = some (.int .i64 x))
            (first | go_keep | exact (hgA.cell_far ⟨b, off + k, none⟩ hbc (by simp [hbne])).trans c1)
            (first | (go_at_call 14; (with_reducible refine hci.out.mono ?_); rintro e wA ⟨rfl, hpA, hgA⟩))
          have hx2 : ((x : Int) != x) = false := by simp
          have HPA := Lib.hid hpA
          have HBA := Lib.hid ((HBE.out.drew).grown hgA HBE.out.size (fun r hr => by cases hr; exact hcw'))
          clear hpA hgA
          go_wp2_with fail
          go_roundw
          case rel => exact ⟨k + 1, by omega, by go_num, HPA.out, HBA.out⟩
          case measure => simp [intOf]; omega
        · have hk' : k = ns.length := by omega
          subst hk'
          have HPC := Lib.hid hpc
          have HBE := Lib.hid hbel
          clear hpc hbel
          go_wp2_with fail
          obtain ⟨wo, rfl⟩ : ∃ wo : World, wo = wr := ⟨_, rfl⟩
          go_loopw [9] (fun i wr => ∃ k : Nat, k ≤ vals.length ∧ i = .int .i64 k ∧ PC wr B c (be8s ns ++ putL ls) (8 * ns.length + (putL (ls.take k)).length) false ∧ Below w.heap.size w wr) (fun i _ => vals.length - (intOf i).toNat)
          case atStart => exact ⟨0, Nat.zero_le _, rfl, by simpa [putL] using HPC.out, HBE.out⟩
          case round =>
            obtain ⟨k, hk, rfl, hpc, hbel⟩ := hrel
            by_cases hlt : k < vals.length
            · have hvl := HVL.out
              have hkl : k < ls.length := by omega
              have hvk : vals[k]? = some (vals[k]'(by omega)) := List.getElem?_eq_getElem _
              have hlk : ls[k]? = some (ls[k]'hkl) := List.getElem?_eq_getElem _
              have hrow := HV.out k _ _ hvk hlk
              obtain ⟨a, lcap', e1, _, _, _, h4⟩ := HLV.out
              cases e1
              obtain ⟨b, off, rfl, hbw, hc⟩ := h4 (by intro e; rw [e] at hlt; exact absurd hlt (Nat.not_lt_zero _))
              have c1 := hbel.cell (p := ⟨b, off + k, none⟩) hbw
              rw [hc k hlt, hvk] at c1
              have hat := (putL_at (be8s ns) ls k hkl)
              rw [be8s_length] at hat
              have hpos := putL_pos ls k hkl
              have hple := putL_take_le ls (k + 1)
              have hlen64 : (ls[k]'hkl).length ≤ 1099511627776 := by omega
              have hdec : decI (((be8s ns ++ putL ls).drop (8 * ns.length + (putL (ls.take k)).length)).take 8) = ((ls[k]'hkl).length : Int) := by
                rw [hat.1, decI_be8 _ (by omega) (by omega)]
              have hby := C.bytes_yes wr.drew B c (be8s ns ++ putL ls) (8 * ns.length + (putL (ls.take k)).length) (ls[k]'hkl).length (C.below hpc (Below.refl _ _).drew) (by rw [HLEN.out]; omega) hdec
              rw [hat.2] at hby
              have HPOS : Hid (8 * ns.length + (putL (ls.take k)).length + 8 + (ls[k]'hkl).length = 8 * ns.length + (putL (ls.take (k + 1))).length) := Lib.hid (by omega)
              clear hat hpos hdec hple hlk
              generalize ls[k]'hkl = l at *
              generalize vals[k]'(by omega) = xv at *
              have i0' : (0 : Int) ≤ (k : Int) := Int.natCast_nonneg _
              have i1 : (k : Int) < (vals.length : Int) := by omega
              have hbc : b < wr.heap.size := Nat.lt_of_lt_of_le hbw hbel.size
              have hbne : b ≠ c := by omega
              have HBY := Lib.hid hby
              have HBE2 := Lib.hid hbel
              have HROW := Lib.hid hrow
              have hsv := run_str (hrow.below hbel)
              clear hby hpc hbel hc h4 hvk hvl hrow hlen64
              go_wp2_with fail
              go_region_held (fun w' => w'.cell? ⟨b, off + k, none⟩ = some xv ∧ (convert 22 9 xv).run Try.prog w' = .ok (.string ⟨l.toArray⟩) w')
                (first | assumption | exact ⟨c1, run_str (HROW.out.below (HBE2.out.drew))⟩ | exact ⟨(hgA.cell_far ⟨b, off + k, none⟩ hbc (by simp [hbne])).trans c1, run_str (HROW.out.below ((HBE2.out.drew).grown hgA HBE2.out.size (fun r hr => by cases hr; exact hcw')))⟩)
                (first | (go_at_call 16; (with_reducible refine HBY.out.mono ?_); rintro e wA ⟨vA, rfl, hoA, hpA, hgA⟩; have esA := run_str (Row1.of_own hoA)))
              rw [HPOS.out] at hpA
              have HPA := Lib.hid hpA
              have HBA := Lib.hid ((HBE2.out.drew).grown hgA HBE2.out.size (fun r hr => by cases hr; exact hcw'))
              clear hpA hgA hoA
              go_wp2_with fail
              go_roundw
              case rel => exact ⟨k + 1, by omega, by go_num, HPA.out, HBA.out⟩
              case measure => simp [intOf]; omega
            · have hk' : k = vals.length := by omega
              subst hk'
              have hvl := HVL.out
              rw [List.take_of_length_le (by omega), ← HLEN.out] at hpc
              have hend := Lib.hid (C.endB _ B c _ _ _ hpc)
              have HP2 := Lib.hid hpc
              have HB5 := Lib.hid hbel
              clear hpc hbel hvl
              go_wp2_with fail
              refine hend.out.mono ?_
              rintro e w5 ⟨rfl, hb5⟩
              have hleft := Lib.hid (C.leftB _ B c _ _ _ (C.below HP2.out hb5))
              have HB6 := Lib.hid (HB5.out.trans (hb5.mono HB5.out.size))
              have hde : decide ((be8s ns ++ putL ls).length = (be8s ns ++ putL ls).length) = true := decide_eq_true rfl
              clear hb5
              go_wp2_with fail
              refine hleft.out.mono ?_
              rintro e w6 ⟨rfl, hb6⟩
              have HB7 := Lib.hid (HB6.out.trans (hb6.mono HB6.out.size))
              clear hb6
              go_wp2_with fail
              go_ret
              exact ⟨by simp, HB7.out⟩

set_option maxHeartbeats 400000 in
theorem packBack_out (HI : IntSaid) (na la : Option Addr) (nn ncap ln lcap : Nat) (w : World) (m3 : nn ≤ ncap) (m4 : ncap ≤ maxLen) (m5 : ln ≤ lcap) (m6 : lcap ≤ maxLen) (h : ¬ (nn ≤ 60 ∧ ln ≤ 60)) :
    Calls Try.prog 5 #[.slice na nn ncap, .slice la ln lcap] w fun e w' => e = .returned (.bool true) ∧ Below w.heap.size w w' := by
  unfold maxLen at m4 m6
  have hc : 60 < nn ∨ (nn ≤ 60 ∧ 60 < ln) := by omega
  clear h
  rcases hc with h1 | ⟨h1, h2⟩
  all_goals
    go_enter Try.func5, Try.ntmps5
    go_wp2_with fail
    refine (alive_any HI _).mono ?_
    rintro e w1 ⟨rfl, hb1⟩
    have HB1 := Lib.hid hb1
    clear hb1
    go_wp2_with fail
    go_ret
    exact ⟨rfl, HB1.out⟩

theorem packBack_any (HI : IntSaid) (HB : BytesSaid) (C : CurSaid PC) {nv lv : Value} {ns : List Int} {ls : List (List UInt8)} (w : World) (hn : Row1 w nv (ns.map (.int .i64))) (hwf : ∀ n ∈ ns, (Lit.int .i64 n).wf = true) (hl : RowB w lv ls) :
    Calls Try.prog 5 #[nv, lv] w fun e w' => e = .returned (.bool true) ∧ Below w.heap.size w w' := by
  obtain ⟨vals, hl1, hl2, hl3⟩ := hl
  have hn' := hn
  have hl' := hl1
  obtain ⟨na, ncap, rfl, m3, m4, _, _⟩ := hn'
  obtain ⟨la, lcap, rfl, m5, m6, _, _⟩ := hl'
  rw [List.length_map] at m3 hn ⊢
  by_cases h : ns.length ≤ 60 ∧ vals.length ≤ 60
  · exact packBack_in HI HB C la ncap lcap na ns vals ls w hn hwf hl1 hl2 hl3 h.1 h.2 m3 m4 m5 m6
  · exact packBack_out HI na la _ ncap _ lcap w m3 m4 m5 m6 h

end Go.Proofs.Ytcgppiniknnjpaa
