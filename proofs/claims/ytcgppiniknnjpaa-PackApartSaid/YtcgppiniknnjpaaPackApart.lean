/- The walk of the law PackApart, over whatever keeps the contracts: true. -/
import Derived.Test.YtcgppiniknnjpaaPackLaws
import Derived.Test.YtcgppiniknnjpaaPackMath
import Derived.OpenShut
namespace Go.Proofs.Ytcgppiniknnjpaa
open Go.RowKit
set_option linter.unusedVariables false

theorem bytes_ne {l m : List UInt8} (h : l ≠ m) : (⟨l.toArray⟩ : ByteArray) ≠ ⟨m.toArray⟩ := fun e => h (by simpa using congrArg (fun b => b.data.toList) e)

/-- Alike in number, and in all up to k. -/
def preB {α : Type} [DecidableEq α] (xs ys : List α) (k : Nat) : Bool := decide (xs.length = ys.length ∧ xs.take k = ys.take k)
theorem preB_zero {α : Type} [DecidableEq α] (xs ys : List α) : preB xs ys 0 = ((xs.length : Int) == (ys.length : Int)) := by
  unfold preB
  simp
  by_cases h : xs.length = ys.length
  · simp [h]
  · simp [h]; omega
theorem preB_no {α : Type} [DecidableEq α] {xs ys : List α} {k : Nat} (h : preB xs ys k = false) : preB xs ys (k + 1) = false := by
  unfold preB at *
  simp only [decide_eq_false_iff_not] at *
  rintro ⟨h1, h2⟩
  refine h ⟨h1, ?_⟩
  have := congrArg (List.take k) h2
  simpa [List.take_take] using this
theorem preB_yes {α : Type} [DecidableEq α] {xs ys : List α} {k : Nat} (h : preB xs ys k = true) (h1 : k < xs.length) (h2 : k < ys.length) : preB xs ys (k + 1) = decide (xs[k] = ys[k]) := by
  unfold preB at *
  simp only [decide_eq_true_eq] at h
  rw [List.take_succ_eq_append_getElem h1, List.take_succ_eq_append_getElem h2, h.2]
  by_cases e : xs[k] = ys[k]
  · simp [e, h.1]
  · rw [decide_eq_false e, decide_eq_false]
    rintro ⟨_, h3⟩
    exact e (by simpa using (List.append_inj h3 rfl).2)
theorem preB_len {α : Type} [DecidableEq α] {xs ys : List α} {k : Nat} (h : preB xs ys k = true) : xs.length = ys.length := by
  unfold preB at *
  simp only [decide_eq_true_eq] at h
  exact h.1
theorem preB_all {α : Type} [DecidableEq α] (xs ys : List α) : preB xs ys xs.length = decide (xs = ys) := by
  unfold preB
  rw [List.take_of_length_le (Nat.le_refl _)]
  by_cases h : xs.length = ys.length
  · rw [List.take_of_length_le (by omega)]
    simp [h]
  · simp [h]
    intro e; exact h (by rw [e])

theorem str_drew {w : World} {v : Value} {l : List UInt8} (h : Row1 w v (l.map bval)) : ∀ n, (convert 22 9 v).run Try.prog (w.drewN n) = .ok (.string ⟨l.toArray⟩) (w.drewN n) := fun n => run_str (h.drewN n)

set_option maxRecDepth 100000 in
set_option maxHeartbeats 4000000 in
theorem packApart_in (HI : IntSaid) (HB : BytesSaid) (aa ba ma na : Option Addr) (acap bcap mcap ncap : Nat) (ms ns : List Int) (va vb : List Value) (xs ys : List (List UInt8)) (w : World)
    (hm : Row1 w (.slice ma ms.length mcap) (ms.map (.int .i64))) (hn : Row1 w (.slice na ns.length ncap) (ns.map (.int .i64)))
    (hwm : ∀ n ∈ ms, (Lit.int .i64 n).wf = true) (hwn : ∀ n ∈ ns, (Lit.int .i64 n).wf = true)
    (ha : Row1 w (.slice aa va.length acap) va) (hva : va.length = xs.length) (hxa : ∀ (i : Nat) (x : Value) (l : List UInt8), va[i]? = some x → xs[i]? = some l → Row1 w x (l.map bval))
    (hb : Row1 w (.slice ba vb.length bcap) vb) (hvb : vb.length = ys.length) (hxb : ∀ (i : Nat) (x : Value) (l : List UInt8), vb[i]? = some x → ys[i]? = some l → Row1 w x (l.map bval))
    (g1 : va.length ≤ 30) (g2 : vb.length ≤ 30) (g3 : ms.length ≤ 60) (g4 : ns.length ≤ 60) (m1 : va.length ≤ acap) (m2 : acap ≤ maxLen) (m3 : vb.length ≤ bcap) (m4 : bcap ≤ maxLen) (m5 : ms.length ≤ mcap) (m6 : mcap ≤ maxLen) (m7 : ns.length ≤ ncap) (m8 : ncap ≤ maxLen) :
    Calls Try.prog 7 #[.slice aa va.length acap, .slice ba vb.length bcap, .slice ma ms.length mcap, .slice na ns.length ncap] w fun e w' => e = .returned (.bool true) ∧ Below w.heap.size w w' := by
  unfold maxLen at m2 m4 m6 m8
  have HM := Lib.hid hm
  have HN := Lib.hid hn
  have HWM := Lib.hid hwm
  have HWN := Lib.hid hwn
  have HA := Lib.hid ha
  have HVA := Lib.hid hva
  have HXA := Lib.hid hxa
  have HBR := Lib.hid hb
  have HVB := Lib.hid hvb
  have HXB := Lib.hid hxb
  clear hm hn hwm hwn ha hva hxa hb hvb hxb
  have d1 : decide ((30 : Int) < (va.length : Int)) = false := decide_eq_false (by omega)
  have d2 : decide ((30 : Int) < (vb.length : Int)) = false := decide_eq_false (by omega)
  have d3 : decide ((60 : Int) < (ms.length : Int)) = false := decide_eq_false (by omega)
  have d4 : decide ((60 : Int) < (ns.length : Int)) = false := decide_eq_false (by omega)
  go_enter Try.func7, Try.ntmps7
  go_wp2_with fail
  refine (alive_any HI _).mono ?_
  rintro e w1 ⟨rfl, hb1⟩
  have HB1 := Lib.hid hb1
  clear hb1
  go_wp2_with fail
  go_loopw [10, 11] (fun u i wr => ∃ k nq : Nat, k ≤ va.length ∧ i = .int .i64 k ∧ u = .bool (preB xs ys k) ∧ (∀ j, j < k → (xs.getD j []).length ≤ 300) ∧ wr = w1.drewN nq) (fun _ i _ => va.length - (intOf i).toNat)
  case atStart => exact ⟨0, 0, Nat.zero_le _, rfl, by rw [preB_zero, HVA.out, HVB.out], fun j hj => by omega, rfl⟩
  case round =>
    obtain ⟨k, nq0, hk, rfl, rfl, hall, rfl⟩ := hrel
    have HALL := Lib.hid hall
    clear hall
    by_cases hlt : k < va.length
    · have hva := HVA.out
      have hvk : va[k]? = some (va[k]'(by omega)) := List.getElem?_eq_getElem _
      have hlk : xs[k]? = some (xs[k]'(by omega)) := List.getElem?_eq_getElem _
      have hg : xs.getD k [] = xs[k]'(by omega) := by simp [List.getD, show k < xs.length from by omega]
      have hrow := HXA.out k _ _ hvk hlk
      obtain ⟨a, lcap', e1, _, _, _, h4⟩ := HA.out
      cases e1
      obtain ⟨b, off, rfl, hbw, hc⟩ := h4 (by intro e; rw [e] at hlt; exact absurd hlt (by simp))
      have c1 := HB1.out.cell (p := ⟨b, off + k, none⟩) hbw
      rw [hc k hlt, hvk] at c1
      have i0' : (0 : Int) ≤ (k : Int) := Int.natCast_nonneg _
      have i1 : (k : Int) < (va.length : Int) := by omega
      cases hp : preB xs ys k with
      | false =>
        have HNO := Lib.hid (preB_no hp)
        generalize xs[k]'(by omega) = l at *
        generalize va[k]'(by omega) = xv at *
        obtain ⟨xa, xcap, rfl, lc1, lc2, lc3, lc4⟩ := hrow
        rw [List.length_map] at c1 lc1
        have HG := Lib.hid hg
        clear hva hvk hlk hg hc h4 lc3 lc4 hp
        by_cases hlong : 300 < l.length
        · go_wp2_with fail
          go_ret
          exact ⟨rfl, below_drewN HB1.out _⟩
        · have hall2 : Hid (∀ j, j < k + 1 → (xs.getD j []).length ≤ 300) := Lib.hid fun j hj => by
            rcases Nat.lt_or_ge j k with h | h
            · exact HALL.out j h
            · have : j = k := by omega
              subst this
              rw [HG.out]
              omega
          have hshort : l.length ≤ 300 := by omega
          clear hlong
          go_wp2_with fail
          go_quiet (fail)
          go_wp2_with fail
          go_roundw
          case rel => exact ⟨k + 1, _, by omega, by go_num, by rw [HNO.out], hall2.out, rfl⟩
          case measure => simp [intOf]; omega
      | true =>
        have hyl := preB_len hp
        have hvb := HVB.out
        have hlt2 : k < vb.length := by omega
        have hnx := preB_yes hp (show k < xs.length by omega) (show k < ys.length by omega)
        have hvk2 : vb[k]? = some (vb[k]'(by omega)) := List.getElem?_eq_getElem _
        have hlk2 : ys[k]? = some (ys[k]'(by omega)) := List.getElem?_eq_getElem _
        have hrow2 := HXB.out k _ _ hvk2 hlk2
        obtain ⟨a2, lcap2, e2, _, _, _, h42⟩ := HBR.out
        cases e2
        obtain ⟨b2, off2, rfl, hbw2, hc2⟩ := h42 (by intro e; rw [e] at hlt2; exact absurd hlt2 (by simp))
        have c2 := HB1.out.cell (p := ⟨b2, off2 + k, none⟩) hbw2
        rw [hc2 k hlt2, hvk2] at c2
        have j1 : (k : Int) < (vb.length : Int) := by omega
        have sl := str_drew (hrow.below HB1.out)
        have sm := str_drew (hrow2.below HB1.out)
        generalize xs[k]'(by omega) = l at *
        generalize va[k]'(by omega) = xv at *
        generalize ys[k]'(by omega) = m at *
        generalize vb[k]'(by omega) = yv at *
        obtain ⟨xa, xcap, rfl, lc1, lc2, lc3, lc4⟩ := hrow
        obtain ⟨ya, ycap, rfl, _, _, _, _⟩ := hrow2
        rw [List.length_map] at c1 lc1 c2 sl sm
        have HG := Lib.hid hg
        have HNX := Lib.hid hnx
        clear hva hvb hvk hlk hg hc h4 lc3 lc4 hp hvk2 hlk2 h42 hc2 hnx hyl
        by_cases hlong : 300 < l.length
        · go_wp2_with fail
          go_ret
          exact ⟨rfl, below_drewN HB1.out _⟩
        · have hall2 : Hid (∀ j, j < k + 1 → (xs.getD j []).length ≤ 300) := Lib.hid fun j hj => by
            rcases Nat.lt_or_ge j k with h | h
            · exact HALL.out j h
            · have : j = k := by omega
              subst this
              rw [HG.out]
              omega
          have hshort : l.length ≤ 300 := by omega
          clear hlong
          have hbq : ((l == m) : Bool) = decide (l = m) := by by_cases e : l = m <;> simp [e]
          go_wp2_with fail
          go_quiet (fail)
          go_wp2_with fail
          go_roundw
          case rel => exact ⟨k + 1, _, by omega, by go_num, by rw [HNX.out], hall2.out, rfl⟩
          case measure => simp [intOf]; omega
    · have hk' : k = va.length := by omega
      subst hk'
      have HXL : Hid (∀ l ∈ xs, l.length ≤ 300) := Lib.hid (fun l hl => by
        obtain ⟨j, hj, rfl⟩ := List.getElem_of_mem hl
        have := HALL.out j (by have := HVA.out; omega)
        simpa [List.getD, hj] using this)
      have hva := HVA.out
      rw [hva, preB_all]
      clear hva HALL
      generalize hdx : decide (xs = ys) = tx
      have HDX := Lib.hid hdx
      clear hdx
      go_wp2_with fail
      go_loop [12] (fun i => ∃ k : Nat, k ≤ vb.length ∧ i = .int .i64 k ∧ ∀ j, j < k → (ys.getD j []).length ≤ 300) (fun i => vb.length - (intOf i).toNat)
      case atStart => exact ⟨0, Nat.zero_le _, rfl, fun j hj => by omega⟩
      case round =>
        obtain ⟨k, hk, rfl, hall⟩ := hrel
        have HALL := Lib.hid hall
        clear hall
        by_cases hlt : k < vb.length
        · have hva := HVB.out
          have hvk : vb[k]? = some (vb[k]'(by omega)) := List.getElem?_eq_getElem _
          have hlk : ys[k]? = some (ys[k]'(by omega)) := List.getElem?_eq_getElem _
          have hg : ys.getD k [] = ys[k]'(by omega) := by simp [List.getD, show k < ys.length from by omega]
          have hrow := HXB.out k _ _ hvk hlk
          obtain ⟨a, lcap', e1, _, _, _, h4⟩ := HBR.out
          cases e1
          obtain ⟨b, off, rfl, hbw, hc⟩ := h4 (by intro e; rw [e] at hlt; exact absurd hlt (by simp))
          have c1 := HB1.out.cell (p := ⟨b, off + k, none⟩) hbw
          rw [hc k hlt, hvk] at c1
          have i0' : (0 : Int) ≤ (k : Int) := Int.natCast_nonneg _
          have i1 : (k : Int) < (vb.length : Int) := by omega
          generalize ys[k]'(by omega) = l at *
          generalize vb[k]'(by omega) = xv at *
          obtain ⟨xa, xcap, rfl, lc1, lc2, lc3, lc4⟩ := hrow
          rw [List.length_map] at c1 lc1
          have HG := Lib.hid hg
          clear hva hvk hlk hg hc h4 lc3 lc4
          by_cases hlong : 300 < l.length
          · go_wp2_with fail
            go_ret
            exact ⟨rfl, below_drewN HB1.out _⟩
          · have hall2 : Hid (∀ j, j < k + 1 → (ys.getD j []).length ≤ 300) := Lib.hid fun j hj => by
              rcases Nat.lt_or_ge j k with h | h
              · exact HALL.out j h
              · have : j = k := by omega
                subst this
                rw [HG.out]
                omega
            have hshort : l.length ≤ 300 := by omega
            clear hlong
            go_wp2_with fail
            go_round
            case rel => exact ⟨k + 1, by omega, by go_num, hall2.out⟩
            case measure => simp [intOf]; omega
        · have hk' : k = vb.length := by omega
          subst hk'
          have HYL : Hid (∀ l ∈ ys, l.length ≤ 300) := Lib.hid (fun l hl => by
            obtain ⟨j, hj, rfl⟩ := List.getElem_of_mem hl
            have := HALL.out j (by have := HVB.out; omega)
            simpa [List.getD, hj] using this)
          clear HALL
          go_wp2_with fail
          go_loopw [13, 14] (fun u i wr => ∃ k nq : Nat, k ≤ ms.length ∧ i = .int .i64 k ∧ u = .bool (preB ms ns k) ∧ wr = w1.drewN nq) (fun _ i _ => ms.length - (intOf i).toNat)
          case atStart => exact ⟨0, _, Nat.zero_le _, rfl, by rw [preB_zero], rfl⟩
          case round =>
            obtain ⟨k, nq1, hk, rfl, rfl, rfl⟩ := hrel
            by_cases hlt : k < ms.length
            · obtain ⟨a, lcap', e1, _, _, _, h4⟩ := HM.out
              rw [List.length_map] at e1
              cases e1
              obtain ⟨b, off, rfl, hbw, hc⟩ := h4 (by intro e; rw [List.map_eq_nil_iff.1 e] at hlt; exact absurd hlt (by simp))
              have c1 := HB1.out.cell (p := ⟨b, off + k, none⟩) hbw
              rw [hc k (by simpa using hlt), List.getElem?_map, List.getElem?_eq_getElem hlt, Option.map_some] at c1
              have i0' : (0 : Int) ≤ (k : Int) := Int.natCast_nonneg _
              have i1 : (k : Int) < (ms.length : Int) := by omega
              cases hp : preB ms ns k with
              | false =>
                have HNO := Lib.hid (preB_no hp)
                generalize ms[k] = l at *
                clear hc h4 hp
                go_wp2_with fail
                go_quiet (fail)
                go_wp2_with fail
                go_roundw
                case rel => exact ⟨k + 1, _, by omega, by go_num, by rw [HNO.out], rfl⟩
                case measure => simp [intOf]; omega
              | true =>
                have hlt2 : k < ns.length := by have := preB_len hp; omega
                have hnx := preB_yes hp hlt hlt2
                obtain ⟨a2, lcap2, e2, _, _, _, h42⟩ := HN.out
                rw [List.length_map] at e2
                cases e2
                obtain ⟨b2, off2, rfl, hbw2, hc2⟩ := h42 (by intro e; rw [List.map_eq_nil_iff.1 e] at hlt2; exact absurd hlt2 (by simp))
                have c2 := HB1.out.cell (p := ⟨b2, off2 + k, none⟩) hbw2
                rw [hc2 k (by simpa using hlt2), List.getElem?_map, List.getElem?_eq_getElem hlt2, Option.map_some] at c2
                have j1 : (k : Int) < (ns.length : Int) := by omega
                generalize ms[k] = l at *
                generalize ns[k] = m at *
                have HNX := Lib.hid hnx
                clear hc h4 hp h42 hc2 hnx
                have hbq : ((l == m) : Bool) = decide (l = m) := by by_cases e : l = m <;> simp [e]
                go_wp2_with fail
                go_quiet (fail)
                go_wp2_with fail
                go_roundw
                case rel => exact ⟨k + 1, _, by omega, by go_num, by rw [HNX.out], rfl⟩
                case measure => simp [intOf]; omega
            · have hk' : k = ms.length := by omega
              subst hk'
              rw [preB_all]
              generalize hdm : decide (ms = ns) = tm
              have HDM := Lib.hid hdm
              clear hdm
              go_wp2_with fail
              have hb2 := below_drewN HB1.out (nq1 + 1)
              have hsx : (putL xs).length ≤ 30 * 308 := by
                have h1 := putL_len_le xs 300 HXL.out
                have h2 : xs.length * (8 + 300) ≤ 30 * (8 + 300) := Nat.mul_le_mul_right _ (by have := HVA.out; omega)
                exact Nat.le_trans h1 h2
              have hsy : (putL ys).length ≤ 30 * 308 := by
                have h1 := putL_len_le ys 300 HYL.out
                have h2 : ys.length * (8 + 300) ≤ 30 * (8 + 300) := Nat.mul_le_mul_right _ (by have := HVB.out; omega)
                exact Nat.le_trans h1 h2
              have RX : Hid (RowB w (.slice aa va.length acap) xs) := Lib.hid ⟨va, HA.out, HVA.out, HXA.out⟩
              have RY : Hid (RowB w (.slice ba vb.length bcap) ys) := Lib.hid ⟨vb, HBR.out, HVB.out, HXB.out⟩
              rw [HVA.out] at RX
              have KA := Lib.hid (HB _ _ [] xs (w1.drewN (nq1 + 1)) (Row1.nil _) (RowB.below RX.out hb2) (by simp; omega))
              have SB := Lib.hid hb2
              have qx : (putL xs == putL ys) = tx := by
                rw [← HDX.out]
                by_cases e : xs = ys
                · simp [e]
                · have h1 : putL xs ≠ putL ys := fun h => e (putL_inj xs ys (fun l hl => Nat.le_trans (HXL.out l hl) (by omega)) (fun l hl => Nat.le_trans (HYL.out l hl) (by omega)) h)
                  simp [e, h1]
              have qm : (be8s ms == be8s ns) = tm := by
                rw [← HDM.out]
                by_cases e : ms = ns
                · simp [e]
                · have h1 : be8s ms ≠ be8s ns := fun h => e (be8s_inj ms ns (fun n hn => bounds_i64 (HWM.out n hn)) (fun n hn => bounds_i64 (HWN.out n hn)) h)
                  simp [e, h1]
              have HB' := HB
              have HI' := HI
              unfold BytesSaid at HB'
              unfold IntSaid at HI'
              have HBS := Lib.hid HB'
              have HIS := Lib.hid HI'
              clear hb2 HB' HI'
              go_region_held (fun _ => True)
                (trivial)
                (first | (go_at_call 10; (with_reducible refine KA.out.mono ?_); rintro e wA ⟨vA, rfl, hoA, hA⟩; rw [List.nil_append] at hoA; have esA := run_str hoA) | (go_at_call 10; (with_reducible refine (HBS.out _ _ [] ys wA (Row1.nil _) (RowB.below RY.out (SB.out.trans (hA.mono SB.out.size))) (by simp; omega)).mono ?_); rintro e wB ⟨vB, rfl, hoB, hB⟩; rw [List.nil_append] at hoB; have esB := run_str hoB; have esA2 := run_str (hoA.below hB)) | (go_at_call 9; have := vC; (with_reducible refine (HIS.out _ _ [] ns wC (Row1.nil _) (HN.out.below (((SB.out.trans (hA.mono SB.out.size)).trans (hB.mono (Nat.le_trans SB.out.size hA.size))).trans (hC.mono (Nat.le_trans (Nat.le_trans SB.out.size hA.size) hB.size)))) (by simp; omega)).mono ?_); rintro e wD ⟨vD, rfl, hoD, hD⟩; rw [List.nil_append] at hoD; have esD := run_str hoD; have esC2 := run_str (hoC.below hD)) | (go_at_call 9; (with_reducible refine (HIS.out _ _ [] ms wB (Row1.nil _) (HM.out.below ((SB.out.trans (hA.mono SB.out.size)).trans (hB.mono (Nat.le_trans SB.out.size hA.size)))) (by simp; omega)).mono ?_); rintro e wC ⟨vC, rfl, hoC, hC⟩; rw [List.nil_append] at hoC; have esC := run_str hoC))
              all_goals
                go_wp2_with fail
                go_ret
                exact ⟨rfl, ((SB.out.trans (hA.mono SB.out.size)).trans (hB.mono (Nat.le_trans SB.out.size hA.size))).trans ((hC.trans (hD.mono hC.size)).mono (Nat.le_trans (Nat.le_trans SB.out.size hA.size) hB.size))⟩

set_option maxHeartbeats 400000 in
theorem packApart_out (HI : IntSaid) (aa ba ma na : Option Addr) (an acap bn bcap mn mcap nn ncap : Nat) (w : World)
    (m1 : an ≤ acap) (m2 : acap ≤ maxLen) (m3 : bn ≤ bcap) (m4 : bcap ≤ maxLen) (m5 : mn ≤ mcap) (m6 : mcap ≤ maxLen) (m7 : nn ≤ ncap) (m8 : ncap ≤ maxLen) (h : ¬ (an ≤ 30 ∧ bn ≤ 30 ∧ mn ≤ 60 ∧ nn ≤ 60)) :
    Calls Try.prog 7 #[.slice aa an acap, .slice ba bn bcap, .slice ma mn mcap, .slice na nn ncap] w fun e w' => e = .returned (.bool true) ∧ Below w.heap.size w w' := by
  unfold maxLen at m2 m4 m6 m8
  have hc : 30 < an ∨ (an ≤ 30 ∧ 30 < bn) ∨ (an ≤ 30 ∧ bn ≤ 30 ∧ 60 < mn) ∨ (an ≤ 30 ∧ bn ≤ 30 ∧ mn ≤ 60 ∧ 60 < nn) := by omega
  clear h
  rcases hc with h1 | ⟨h1, h2⟩ | ⟨h1, h2, h3⟩ | ⟨h1, h2, h3, h4⟩
  all_goals
    go_enter Try.func7, Try.ntmps7
    go_wp2_with fail
    refine (alive_any HI _).mono ?_
    rintro e w1 ⟨rfl, hb1⟩
    have HB1 := Lib.hid hb1
    clear hb1
    go_wp2_with fail
    go_ret
    exact ⟨rfl, HB1.out⟩

theorem packApart_any (HI : IntSaid) (HB : BytesSaid) {av bv mv nv : Value} {ms ns : List Int} {xs ys : List (List UInt8)} (w : World) (ha : RowB w av xs) (hb : RowB w bv ys)
    (hm : Row1 w mv (ms.map (.int .i64))) (hwm : ∀ n ∈ ms, (Lit.int .i64 n).wf = true) (hn : Row1 w nv (ns.map (.int .i64))) (hwn : ∀ n ∈ ns, (Lit.int .i64 n).wf = true) :
    Calls Try.prog 7 #[av, bv, mv, nv] w fun e w' => e = .returned (.bool true) ∧ Below w.heap.size w w' := by
  obtain ⟨va, ha1, ha2, ha3⟩ := ha
  obtain ⟨vb, hb1, hb2, hb3⟩ := hb
  obtain ⟨aa, acap, rfl, m1, m2, _, _⟩ := id ha1
  obtain ⟨ba, bcap, rfl, m3, m4, _, _⟩ := id hb1
  obtain ⟨ma, mcap, rfl, m5, m6, _, _⟩ := id hm
  obtain ⟨na, ncap, rfl, m7, m8, _, _⟩ := id hn
  rw [List.length_map] at m5 m7 hm hn ⊢
  rw [List.length_map]
  by_cases h : va.length ≤ 30 ∧ vb.length ≤ 30 ∧ ms.length ≤ 60 ∧ ns.length ≤ 60
  · exact packApart_in HI HB aa ba ma na acap bcap mcap ncap ms ns va vb xs ys w hm hn hwm hwn ha1 ha2 ha3 hb1 hb2 hb3 h.1 h.2.1 h.2.2.1 h.2.2.2 m1 m2 m3 m4 m5 m6 m7 m8
  · exact packApart_out HI aa ba ma na _ acap _ bcap _ mcap _ ncap w m1 m2 m3 m4 m5 m6 m7 m8 h

end Go.Proofs.Ytcgppiniknnjpaa
