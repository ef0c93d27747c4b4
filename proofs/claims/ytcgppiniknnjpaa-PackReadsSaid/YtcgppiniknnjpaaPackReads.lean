/- The walk of the law PackReads, over whatever keeps the contracts: true. -/
import Derived.Test.YtcgppiniknnjpaaPackPair
import Derived.OpenShut
namespace Go.Proofs.Ytcgppiniknnjpaa
open Go.RowKit
set_option linter.unusedVariables false
variable {PC : World → Nat → Nat → List UInt8 → Nat → Bool → Prop}

set_option maxRecDepth 100000 in
set_option maxHeartbeats 4000000 in
theorem packReads_in (HI : IntSaid) (C : CurSaid PC) (ba wa na : Option Addr) (bcap wcap ncap : Nat) (bl : List UInt8) (ws ns : List Int) (w : World)
    (hb : Row1 w (.slice ba bl.length bcap) (bl.map bval)) (hw : Row1 w (.slice wa ws.length wcap) (ws.map (.int .i64))) (hn : Row1 w (.slice na ns.length ncap) (ns.map (.int .i64)))
    (g1 : bl.length ≤ 2000) (g2 : ws.length ≤ 100) (g3 : ws.length ≤ ns.length) (m1 : bl.length ≤ bcap) (m2 : bcap ≤ maxLen) (m3 : ws.length ≤ wcap) (m4 : wcap ≤ maxLen) (m5 : ns.length ≤ ncap) (m6 : ncap ≤ maxLen) :
    Calls Try.prog 4 #[.slice ba bl.length bcap, .slice wa ws.length wcap, .slice na ns.length ncap] w fun e w' => e = .returned (.bool true) ∧ Below w.heap.size w w' := by
  unfold maxLen at m2 m4 m6
  have HBV := Lib.hid hb
  have HWV := Lib.hid hw
  have HNV := Lib.hid hn
  have hbo : bl ≠ [] → ∀ k, (Value.slice ba bl.length bcap).ownBlock = some k → k < w.heap.size := by
    intro h k hk
    obtain ⟨a, cap, e, _, _, _, h4⟩ := hb
    obtain ⟨b, off, e2, hlt, _⟩ := h4 (by simpa using h)
    injection e with e1 _ _
    subst e1
    subst e2
    simp [Value.ownBlock] at hk
    omega
  have HBO := Lib.hid hbo
  clear hb hw hn hbo
  have d1 : decide ((2000 : Int) < (bl.length : Int)) = false := decide_eq_false (by omega)
  have d2 : decide ((100 : Int) < (ws.length : Int)) = false := decide_eq_false (by omega)
  have d3 : decide ((ns.length : Int) < (ws.length : Int)) = false := decide_eq_false (by omega)
  have d3' : decide (ns.length < ws.length) = false := decide_eq_false (by omega)
  go_enter Try.func4, Try.ntmps4
  go_wp2_with fail
  refine (alive_any HI _).mono ?_
  rintro e w1 ⟨rfl, hb1⟩
  have HB1 := Lib.hid hb1
  clear hb1
  have HNEW := Lib.hid (C.new _ bl w1 (HBV.out.below HB1.out) (by omega))
  go_wp2_with fail
  refine HNEW.out.mono ?_
  rintro e w2 ⟨B, c, rfl, hpc, hcw, hb2⟩
  have HB2 := Lib.hid (HB1.out.trans (hb2.mono HB1.out.size))
  have hcw' : w.heap.size ≤ c := Nat.le_trans HB1.out.size hcw
  have HP := Lib.hid hpc
  have hBw : B ≤ w2.heap.size := (C.lt hpc).2
  have hcB : c < B := (C.lt hpc).1
  clear hpc hb2 hcw
  go_wp2_with fail
  have hpair0 : Pair PC (w2.alloc (.cells #[.slice ba bl.length bcap, .int .i64 0, .bool false] 35)) B c w2.heap.size (.slice ba bl.length bcap) bl 0 0 false :=
    ⟨C.below HP.out ((Below.refl _ _).alloc (Nat.le_refl _) _), Blk.made w2 [.slice ba bl.length bcap, .int .i64 0, .bool false] _, (HBV.out.below HB2.out).alloc _, (fun _ => rfl), Nat.zero_le _, by omega, hBw, fun h k hk => ⟨by have := HBO.out h k hk; omega, by have := HBO.out h k hk; omega⟩⟩
  have HPR0 := Lib.hid hpair0
  have HB3 := Lib.hid (HB2.out.alloc HB2.out.size (.cells #[.slice ba bl.length bcap, .int .i64 0, .bool false] 35))
  clear hpair0
  have hdw : w.heap.size ≤ w2.heap.size := HB2.out.size
  obtain ⟨d, hd⟩ : ∃ d, d = w2.heap.size := ⟨_, rfl⟩
  rw [← hd] at HPR0 hdw ⊢
  clear hd
  go_loopw [10] (fun i wr => ∃ (k p q : Nat) (bad : Bool), k ≤ ws.length ∧ i = .int .i64 k ∧ Pair PC wr B c d (.slice ba bl.length bcap) bl p q bad ∧ Below w.heap.size w wr) (fun i _ => ws.length - (intOf i).toNat)
  case atStart => exact ⟨0, 0, 0, false, Nat.zero_le _, rfl, HPR0.out, HB3.out⟩
  case round =>
    clear HPR0 HB3
    obtain ⟨k, p, q, bad, hk, rfl, hpr, hbl⟩ := hrel
    have HPR := Lib.hid hpr
    have HBL := Lib.hid hbl
    clear hpr hbl
    by_cases hlt : k < ws.length
    · obtain ⟨a, cap, e1, _, _, _, h4⟩ := HWV.out
      rw [List.length_map] at e1
      cases e1
      obtain ⟨b, off, rfl, hbw, hc⟩ := h4 (by intro e; rw [List.map_eq_nil_iff.1 e] at hlt; exact absurd hlt (Nat.not_lt_zero _))
      have c1 := HBL.out.cell (p := ⟨b, off + k, none⟩) hbw
      rw [hc k (by simpa using hlt), List.getElem?_map, List.getElem?_eq_getElem hlt, Option.map_some] at c1
      have hlt2 : k < ns.length := by omega
      obtain ⟨a2, cap2, e2, _, _, _, h42⟩ := HNV.out
      rw [List.length_map] at e2
      cases e2
      obtain ⟨b2, off2, rfl, hbw2, hc2⟩ := h42 (by intro e; rw [List.map_eq_nil_iff.1 e] at hlt2; exact absurd hlt2 (Nat.not_lt_zero _))
      have c2 := HBL.out.cell (p := ⟨b2, off2 + k, none⟩) hbw2
      rw [hc2 k (by simpa using hlt2), List.getElem?_map, List.getElem?_eq_getElem hlt2, Option.map_some] at c2
      have hbc : b2 < wr.heap.size := Nat.lt_of_lt_of_le hbw2 HBL.out.size
      have hb2c : b2 ≠ c := by omega
      have hb2d : b2 ≠ d := by omega
      have i0' : (0 : Int) ≤ (k : Int) := Int.natCast_nonneg _
      have i1 : (k : Int) < (ws.length : Int) := by omega
      have i2 : (k : Int) < (ns.length : Int) := by omega
      generalize ws[k] = x at *
      generalize ns[k] = y at *
      clear hc h4 hc2 h42
      cases hx0 : (bits .and .i64 x 3 == 0) with
      | true =>
        obtain ⟨n, p', q', bad', hA, hB, hs, hl⟩ := asked_int C HPR.out
        have HA := Lib.hid hA
        have HBQ := Lib.hid hB
        have HS := Lib.hid hs
        clear hA hB hs
        go_wp2_with fail
        refine HA.out.mono ?_
        rintro e w5 ⟨rfl, hp5, hg5⟩
        have HP5 := Lib.hid hp5
        have HG5 := Lib.hid hg5
        have HB5 := Lib.hid (HBQ.out w5 hg5)
        clear hp5 hg5
        go_wp2_with fail
        refine HB5.out.mono ?_
        rintro e w6 ⟨rfl, hr6, hg6⟩
        have HPR6 := Lib.hid (HPR.out.mk2 C HP5.out HG5.out hr6 hg6 HS.out hl)
        have HBL6 := Lib.hid ((HBL.out.grown HG5.out HBL.out.size (fun r hr => by cases hr; exact hcw')).grown hg6 (Nat.le_trans HBL.out.size HG5.out.size) (fun r hr => by cases hr; exact hdw))
        clear hr6 hg6
        clear HPR HBL
        have HPR := HPR6
        have HBL := HBL6
        clear HPR6 HBL6
        have hok : True := trivial
        have hok2 : True := trivial
        clear hok hok2
        have htold := told C HPR.out
        obtain ⟨lv, ev, q1, q2, q3, q4, q5, q6⟩ := htold
        have Q1 := Lib.hid q1
        have Q2 := Lib.hid q2
        have Q3 := Lib.hid q3
        have Q5 := Lib.hid q5
        have Q6 := Lib.hid q6
        clear q1 q2 q3 q5 q6
        go_wp2_with fail
        go_quiet ((first | (go_at_call 20; exact Calls.quiet_of (Q1.out _)) | (go_at_call 21; exact Calls.quiet_of (Q2.out _)) | (go_at_call 22; exact Calls.quiet_of (Q3.out _)) | (go_at_call 23; exact Calls.quiet_of (Q5.out _)) | (go_at_call 24; exact Calls.quiet_of (Q6.out _))))
        go_wp2_with fail
        go_roundw
        case rel => exact ⟨k + 1, _, _, _, by omega, by go_num, HPR.out.drewN C _, below_drewN HBL.out _⟩
        case measure => simp [intOf]; omega
      | false =>
        cases hx1 : (bits .and .i64 x 3 == 1) with
        | true =>
          obtain ⟨l', q', bad', hA0, hB0, hl, hll⟩ := asked_bytes C HPR.out
          have hA : Calls Try.prog 16 #[.pointer (some ⟨c, 0, none⟩)] wr _ := hA0
          have hB : ∀ w5, wr.grownBy w5 (some c) → Calls Try.prog 17 #[.pointer (some ⟨d, 0, none⟩)] w5 _ := hB0
          have HA := Lib.hid hA
          have HBQ := Lib.hid hB
          clear hA hB hA0 hB0
          have hdr : d < wr.heap.size := HPR.out.two.lt
          have hBr : B ≤ wr.heap.size := (C.lt HPR.out.one).2
          have hl2000 : l'.length ≤ 2000 := by omega
          have hww := HBL.out.size
          go_wp2_with fail
          refine HA.out.mono ?_
          rintro e w5 ⟨v5, p', rfl, hown5, hp5, hs, hg5⟩
          have hg5d : wr.grownBy w5.drew (some c) := ⟨hg5.os, hg5.tape, hg5.output, hg5.size, hg5.block⟩
          have hr5 := Row1.of_own hown5
          have HB5 := Lib.hid (HBQ.out w5.drew hg5d)
          have HP5 := Lib.hid (C.keep (w' := w5.drew) hp5 (fun _ _ => rfl) (Nat.le_refl _))
          have HS := Lib.hid hs
          have HR5 := Lib.hid hr5
          have c5 := (hg5.cell_far ⟨b2, off2 + k, none⟩ hbc (by simp [hb2c])).trans c2
          have hvd : v5.ownBlock ≠ some d := fun e => by have := (hown5.lt d e).1; omega
          have HO5 := Lib.hid hown5
          have HG5 := Lib.hid hg5d
          have hbc5 : b2 < w5.heap.size := Nat.lt_of_lt_of_le hbc hg5.size
          clear hown5 hp5 hs hg5 hr5 hg5d
          go_wp2_with fail
          go_region_held (fun w' => (convert 22 9 v5).run Try.prog w' = .ok (.string ⟨l'.toArray⟩) w' ∧ w'.cell? ⟨b2, off2 + k, none⟩ = some (.int .i64 y))
            (first | assumption | exact ⟨run_str HR5.out.drew, c5⟩ | exact ⟨run_str (HR5.out.drew.grown hg6 (fun k hk => by cases hk; exact hvd)), (hg6.cell_far ⟨b2, off2 + k, none⟩ hbc5 (by simp [hb2d])).trans c5⟩)
            (first | (go_at_call 17; (with_reducible refine HB5.out.mono ?_); rintro e w6 ⟨v6, rfl, hr6, hc6, hg6⟩; have es6 := run_str hr6))
          have HPR6 := Lib.hid (HPR.out.mk2 C HP5.out HG5.out hc6 hg6 HS.out hl)
          have hown6 := own_grown HO5.out.drew hg6 (fun k hk => by cases hk; exact hvd)
          have HBL6 := Lib.hid ((HBL.out.grown HG5.out HBL.out.size (fun r hr => by cases hr; exact hcw')).grown hg6 (Nat.le_trans HBL.out.size HG5.out.size) (fun r hr => by cases hr; exact hdw))
          clear hr6 hc6 hg6 es6 c5 HPR HBL HP5 HG5 HB5 HR5 HO5 HA HBQ HS
          rcases id hown6.2 with ⟨rfl, h0⟩ | ⟨g, gcap, gcur, rfl, hgb, hgh, hgn, hgm, hgs, hgt⟩
          · have HPR := HPR6
            have HBL := HBL6
            clear HPR6 HBL6 hown6 h0
            have hok : True := trivial
            have hok2 : True := trivial
            go_wp2_with fail
            refine wp_loop_rounds 1 ?_
            rw [rounds_succ]
            clear hok hok2
            have htold := told C HPR.out
            obtain ⟨lv, ev, q1, q2, q3, q4, q5, q6⟩ := htold
            have Q1 := Lib.hid q1
            have Q2 := Lib.hid q2
            have Q3 := Lib.hid q3
            have Q5 := Lib.hid q5
            have Q6 := Lib.hid q6
            clear q1 q2 q3 q5 q6
            go_wp2_with fail
            go_quiet ((first | (go_at_call 20; exact Calls.quiet_of (Q1.out _)) | (go_at_call 21; exact Calls.quiet_of (Q2.out _)) | (go_at_call 22; exact Calls.quiet_of (Q3.out _)) | (go_at_call 23; exact Calls.quiet_of (Q5.out _)) | (go_at_call 24; exact Calls.quiet_of (Q6.out _))))
            go_wp2_with fail
            go_roundw
            case rel => exact ⟨k + 1, _, _, _, by omega, by go_num, HPR.out.drewN C _, below_drewN HBL.out _⟩
            case measure => simp [intOf]; omega
          · have hgd : g ≠ d := by omega
            have hgB : B ≤ g := by omega
            have hgw : w.heap.size ≤ g := Nat.le_trans hww hgb
            have HO6 := Lib.hid hown6
            clear hown6 hgh hgs hgt
            unfold maxLen at hgm
            go_wp2_with fail
            obtain ⟨wo, rfl⟩ : ∃ wo : World, wo = wr := ⟨_, rfl⟩
            go_loopw [13] (fun i wr' => ∃ (j : Nat) (xs : List Value), j ≤ l'.length ∧ i = .int .i64 j ∧ wr'.ownsRow wo.heap.size 5 1 (.slice (some ⟨g, 0, none⟩) l'.length gcap) l'.length xs ∧ (∀ t, t < l'.length → ∃ b, xs[t]? = some (.int .u8 b)) ∧ w6.grownBy wr' (some g)) (fun i _ => l'.length - (intOf i).toNat)
            case atStart =>
              exact ⟨0, _, Nat.zero_le _, rfl, HO6.out, (fun t ht => ⟨_, by rw [List.getElem?_map, List.getElem?_eq_getElem ht]; rfl⟩), World.grownBy.refl _ _⟩
            case round =>
              obtain ⟨j, xs, hj, rfl, hown, hall, hgr⟩ := hrel
              by_cases hltj : j < l'.length
              · obtain ⟨b', hb'⟩ := hall j hltj
                have cj := hown.cellAt j (by omega)
                rw [hb'] at cj
                have fj := hown.frozenAt j
                have i0j : (0 : Int) ≤ (j : Int) := Int.natCast_nonneg _
                have i1j : (j : Int) < (l'.length : Int) := by omega
                have HO := Lib.hid hown
                have HALL := Lib.hid hall
                have HGR := Lib.hid hgr
                clear hown hall hgr hb'
                go_wp2_with fail
                go_roundw
                case rel =>
                  obtain ⟨s1, s2⟩ := HO.out.stored j (.int .u8 (bits .xor .u8 b' 255))
                  refine ⟨j + 1, _, by omega, by go_num, s1, fun t ht => ?_, grownBy_trans HGR.out s2⟩
                  by_cases htj : j = t
                  · subst htj
                    exact ⟨_, by rw [List.getElem?_set_self (by have := HO.out.1; omega)]⟩
                  · rw [List.getElem?_set_ne htj]
                    exact HALL.out t ht
                case measure => simp [intOf]; omega
              · have hj' : j = l'.length := by omega
                subst hj'
                have HPR := Lib.hid (HPR6.out.grown C hgr (fun k hk => by cases hk; exact ⟨hgB, hgd⟩))
                have HBL := Lib.hid (HBL6.out.grown hgr HBL6.out.size (fun r hr => by cases hr; exact hgw))
                clear HPR6 HBL6 hown hall hgr
                have hok : True := trivial
                have hok2 : True := trivial
                clear hok hok2
                have htold := told C HPR.out
                obtain ⟨lv, ev, q1, q2, q3, q4, q5, q6⟩ := htold
                have Q1 := Lib.hid q1
                have Q2 := Lib.hid q2
                have Q3 := Lib.hid q3
                have Q5 := Lib.hid q5
                have Q6 := Lib.hid q6
                clear q1 q2 q3 q5 q6
                go_wp2_with fail
                go_quiet ((first | (go_at_call 20; exact Calls.quiet_of (Q1.out _)) | (go_at_call 21; exact Calls.quiet_of (Q2.out _)) | (go_at_call 22; exact Calls.quiet_of (Q3.out _)) | (go_at_call 23; exact Calls.quiet_of (Q5.out _)) | (go_at_call 24; exact Calls.quiet_of (Q6.out _))))
                go_wp2_with fail
                go_roundw
                case rel => exact ⟨k + 1, _, _, _, by omega, by go_num, HPR.out.drewN C _, below_drewN HBL.out _⟩
                case measure => simp [intOf]; omega
        | false =>
          obtain ⟨l', q', bad', hA0, hB0, hl, hll⟩ := asked_raw C HPR.out y
          have hA : Calls Try.prog 18 #[.pointer (some ⟨c, 0, none⟩), .int .i64 y] wr _ := hA0
          have hB : ∀ w5, wr.grownBy w5 (some c) → Calls Try.prog 19 #[.pointer (some ⟨d, 0, none⟩), .int .i64 y] w5 _ := hB0
          have HA := Lib.hid hA
          have HBQ := Lib.hid hB
          clear hA hB hA0 hB0
          have hdr : d < wr.heap.size := HPR.out.two.lt
          have hBr : B ≤ wr.heap.size := (C.lt HPR.out.one).2
          have hl2000 : l'.length ≤ 2000 := by omega
          have hww := HBL.out.size
          go_wp2_with fail
          refine HA.out.mono ?_
          rintro e w5 ⟨v5, p', rfl, hown5, hp5, hs, hg5⟩
          have hg5d : wr.grownBy w5.drew (some c) := ⟨hg5.os, hg5.tape, hg5.output, hg5.size, hg5.block⟩
          have hr5 := Row1.of_own hown5
          have HB5 := Lib.hid (HBQ.out w5.drew hg5d)
          have HP5 := Lib.hid (C.keep (w' := w5.drew) hp5 (fun _ _ => rfl) (Nat.le_refl _))
          have HS := Lib.hid hs
          have HR5 := Lib.hid hr5
          have c5 := (hg5.cell_far ⟨b2, off2 + k, none⟩ hbc (by simp [hb2c])).trans c2
          have hvd : v5.ownBlock ≠ some d := fun e => by have := (hown5.lt d e).1; omega
          have HO5 := Lib.hid hown5
          have HG5 := Lib.hid hg5d
          have hbc5 : b2 < w5.heap.size := Nat.lt_of_lt_of_le hbc hg5.size
          clear hown5 hp5 hs hg5 hr5 hg5d
          go_wp2_with fail
          go_region_held (fun w' => (convert 22 9 v5).run Try.prog w' = .ok (.string ⟨l'.toArray⟩) w' ∧ w'.cell? ⟨b2, off2 + k, none⟩ = some (.int .i64 y))
            (first | assumption | exact ⟨run_str HR5.out.drew, c5⟩ | exact ⟨run_str (HR5.out.drew.grown hg6 (fun k hk => by cases hk; exact hvd)), (hg6.cell_far ⟨b2, off2 + k, none⟩ hbc5 (by simp [hb2d])).trans c5⟩)
            (first | (go_at_call 19; (with_reducible refine HB5.out.mono ?_); rintro e w6 ⟨v6, rfl, hr6, hc6, hg6⟩; have es6 := run_str hr6))
          have HPR6 := Lib.hid (HPR.out.mk2 C HP5.out HG5.out hc6 hg6 HS.out hl)
          have hown6 := own_grown HO5.out.drew hg6 (fun k hk => by cases hk; exact hvd)
          have HBL6 := Lib.hid ((HBL.out.grown HG5.out HBL.out.size (fun r hr => by cases hr; exact hcw')).grown hg6 (Nat.le_trans HBL.out.size HG5.out.size) (fun r hr => by cases hr; exact hdw))
          clear hr6 hc6 hg6 es6 c5 HPR HBL HP5 HG5 HB5 HR5 HO5 HA HBQ HS
          rcases id hown6.2 with ⟨rfl, h0⟩ | ⟨g, gcap, gcur, rfl, hgb, hgh, hgn, hgm, hgs, hgt⟩
          · have HPR := HPR6
            have HBL := HBL6
            clear HPR6 HBL6 hown6 h0
            have hok : True := trivial
            have hok2 : True := trivial
            go_wp2_with fail
            refine wp_loop_rounds 1 ?_
            rw [rounds_succ]
            clear hok hok2
            have htold := told C HPR.out
            obtain ⟨lv, ev, q1, q2, q3, q4, q5, q6⟩ := htold
            have Q1 := Lib.hid q1
            have Q2 := Lib.hid q2
            have Q3 := Lib.hid q3
            have Q5 := Lib.hid q5
            have Q6 := Lib.hid q6
            clear q1 q2 q3 q5 q6
            go_wp2_with fail
            go_quiet ((first | (go_at_call 20; exact Calls.quiet_of (Q1.out _)) | (go_at_call 21; exact Calls.quiet_of (Q2.out _)) | (go_at_call 22; exact Calls.quiet_of (Q3.out _)) | (go_at_call 23; exact Calls.quiet_of (Q5.out _)) | (go_at_call 24; exact Calls.quiet_of (Q6.out _))))
            go_wp2_with fail
            go_roundw
            case rel => exact ⟨k + 1, _, _, _, by omega, by go_num, HPR.out.drewN C _, below_drewN HBL.out _⟩
            case measure => simp [intOf]; omega
          · have hgd : g ≠ d := by omega
            have hgB : B ≤ g := by omega
            have hgw : w.heap.size ≤ g := Nat.le_trans hww hgb
            have HO6 := Lib.hid hown6
            clear hown6 hgh hgs hgt
            unfold maxLen at hgm
            go_wp2_with fail
            obtain ⟨wo, rfl⟩ : ∃ wo : World, wo = wr := ⟨_, rfl⟩
            go_loopw [15] (fun i wr' => ∃ (j : Nat) (xs : List Value), j ≤ l'.length ∧ i = .int .i64 j ∧ wr'.ownsRow wo.heap.size 5 1 (.slice (some ⟨g, 0, none⟩) l'.length gcap) l'.length xs ∧ (∀ t, t < l'.length → ∃ b, xs[t]? = some (.int .u8 b)) ∧ w6.grownBy wr' (some g)) (fun i _ => l'.length - (intOf i).toNat)
            case atStart =>
              exact ⟨0, _, Nat.zero_le _, rfl, HO6.out, (fun t ht => ⟨_, by rw [List.getElem?_map, List.getElem?_eq_getElem ht]; rfl⟩), World.grownBy.refl _ _⟩
            case round =>
              obtain ⟨j, xs, hj, rfl, hown, hall, hgr⟩ := hrel
              by_cases hltj : j < l'.length
              · obtain ⟨b', hb'⟩ := hall j hltj
                have cj := hown.cellAt j (by omega)
                rw [hb'] at cj
                have fj := hown.frozenAt j
                have i0j : (0 : Int) ≤ (j : Int) := Int.natCast_nonneg _
                have i1j : (j : Int) < (l'.length : Int) := by omega
                have HO := Lib.hid hown
                have HALL := Lib.hid hall
                have HGR := Lib.hid hgr
                clear hown hall hgr hb'
                go_wp2_with fail
                go_roundw
                case rel =>
                  obtain ⟨s1, s2⟩ := HO.out.stored j (.int .u8 (bits .xor .u8 b' 255))
                  refine ⟨j + 1, _, by omega, by go_num, s1, fun t ht => ?_, grownBy_trans HGR.out s2⟩
                  by_cases htj : j = t
                  · subst htj
                    exact ⟨_, by rw [List.getElem?_set_self (by have := HO.out.1; omega)]⟩
                  · rw [List.getElem?_set_ne htj]
                    exact HALL.out t ht
                case measure => simp [intOf]; omega
              · have hj' : j = l'.length := by omega
                subst hj'
                have HPR := Lib.hid (HPR6.out.grown C hgr (fun k hk => by cases hk; exact ⟨hgB, hgd⟩))
                have HBL := Lib.hid (HBL6.out.grown hgr HBL6.out.size (fun r hr => by cases hr; exact hgw))
                clear HPR6 HBL6 hown hall hgr
                have hok : True := trivial
                have hok2 : True := trivial
                clear hok hok2
                have htold := told C HPR.out
                obtain ⟨lv, ev, q1, q2, q3, q4, q5, q6⟩ := htold
                have Q1 := Lib.hid q1
                have Q2 := Lib.hid q2
                have Q3 := Lib.hid q3
                have Q5 := Lib.hid q5
                have Q6 := Lib.hid q6
                clear q1 q2 q3 q5 q6
                go_wp2_with fail
                go_quiet ((first | (go_at_call 20; exact Calls.quiet_of (Q1.out _)) | (go_at_call 21; exact Calls.quiet_of (Q2.out _)) | (go_at_call 22; exact Calls.quiet_of (Q3.out _)) | (go_at_call 23; exact Calls.quiet_of (Q5.out _)) | (go_at_call 24; exact Calls.quiet_of (Q6.out _))))
                go_wp2_with fail
                go_roundw
                case rel => exact ⟨k + 1, _, _, _, by omega, by go_num, HPR.out.drewN C _, below_drewN HBL.out _⟩
                case measure => simp [intOf]; omega
    · have hk' : k = ws.length := by omega
      subst hk'
      go_wp2_with fail
      go_ret
      exact ⟨rfl, HBL.out⟩

set_option maxRecDepth 100000 in
set_option maxHeartbeats 400000 in
theorem packReads_out (HI : IntSaid) (ba wa na : Option Addr) (bn bcap wn wcap nn ncap : Nat) (w : World) (m1 : bn ≤ bcap) (m2 : bcap ≤ maxLen) (m3 : wn ≤ wcap) (m4 : wcap ≤ maxLen) (m5 : nn ≤ ncap) (m6 : ncap ≤ maxLen) (h : ¬ (bn ≤ 2000 ∧ wn ≤ 100 ∧ wn ≤ nn)) :
    Calls Try.prog 4 #[.slice ba bn bcap, .slice wa wn wcap, .slice na nn ncap] w fun e w' => e = .returned (.bool true) ∧ Below w.heap.size w w' := by
  unfold maxLen at m2 m4 m6
  have hc : 2000 < bn ∨ (bn ≤ 2000 ∧ 100 < wn) ∨ (bn ≤ 2000 ∧ wn ≤ 100 ∧ nn < wn) := by omega
  clear h
  rcases hc with h1 | ⟨h1, h2⟩ | ⟨h1, h2, h3⟩
  all_goals
    go_enter Try.func4, Try.ntmps4
    go_wp2_with fail
    refine (alive_any HI _).mono ?_
    rintro e w1 ⟨rfl, hb1⟩
    have HB1 := Lib.hid hb1
    clear hb1
    go_wp2_with fail
    go_ret
    exact ⟨rfl, HB1.out⟩

theorem packReads_any (HI : IntSaid) (C : CurSaid PC) {bv wv nv : Value} {bl : List UInt8} {ws ns : List Int} (w : World) (hb : Row1 w bv (bl.map bval)) (hw : Row1 w wv (ws.map (.int .i64))) (hn : Row1 w nv (ns.map (.int .i64))) :
    Calls Try.prog 4 #[bv, wv, nv] w fun e w' => e = .returned (.bool true) ∧ Below w.heap.size w w' := by
  obtain ⟨ba, bcap, rfl, m1, m2, _, _⟩ := id hb
  obtain ⟨wa, wcap, rfl, m3, m4, _, _⟩ := id hw
  obtain ⟨na, ncap, rfl, m5, m6, _, _⟩ := id hn
  rw [List.length_map] at m1 m3 m5 hb hw hn
  rw [List.length_map, List.length_map, List.length_map]
  by_cases h : bl.length ≤ 2000 ∧ ws.length ≤ 100 ∧ ws.length ≤ ns.length
  · exact packReads_in HI C ba wa na bcap wcap ncap bl ws ns w hb hw hn h.1 h.2.1 h.2.2 m1 m2 m3 m4 m5 m6
  · exact packReads_out HI ba wa na _ bcap _ wcap _ ncap w m1 m2 m3 m4 m5 m6 h

end Go.Proofs.Ytcgppiniknnjpaa
