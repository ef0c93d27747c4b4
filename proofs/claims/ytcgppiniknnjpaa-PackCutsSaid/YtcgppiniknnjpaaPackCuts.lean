/- The walk of the law PackCuts, over whatever keeps the contracts: true. -/
import Derived.Test.YtcgppiniknnjpaaPackCur
import Derived.OpenShut
namespace Go.Proofs.Ytcgppiniknnjpaa
open Go.RowKit
set_option linter.unusedVariables false
variable {PC : World → Nat → Nat → List UInt8 → Nat → Bool → Prop}

theorem Row1.firsts {w : World} {a : Option Addr} {len cap : Nat} {vs : List Value} (h : Row1 w (.slice a len cap) vs) (n : Nat) (hn : n ≤ vs.length) : Row1 w (.slice a n cap) (vs.take n) := by
  obtain ⟨a', cap', e, h1, h2, h3, h4⟩ := h
  cases e
  have hl : (vs.take n).length = n := by simp; omega
  refine ⟨a, cap, by rw [hl], by rw [hl]; omega, h2, h3, fun hne => ?_⟩
  have hv : vs ≠ [] := by intro e; subst e; simp at hne
  obtain ⟨b, off, e, hb, hc⟩ := h4 hv
  refine ⟨b, off, e, hb, fun k hk => ?_⟩
  rw [hl] at hk
  rw [hc k (by omega), List.getElem?_take, if_pos hk]

/-- Of a part that holds them, the same bytes are read. -/
theorem cut_at {l : List UInt8} {k p n : Nat} (h : p + n ≤ k) : ((l.take k).drop p).take n = (l.drop p).take n := by
  rw [List.drop_take, List.take_take]
  congr 1
  omega

set_option maxRecDepth 100000 in
set_option maxHeartbeats 4000000 in
theorem packCuts_in (HI : IntSaid) (C : CurSaid PC) (la2 : Option Addr) (ncap lcap : Nat) (na : Option Addr) (ns : List Int) (vals : List Value) (ls : List (List UInt8)) (q : Int) (w : World)
    (hn : Row1 w (.slice na ns.length ncap) (ns.map (.int .i64))) (hwf : ∀ n ∈ ns, (Lit.int .i64 n).wf = true) (hl : Row1 w (.slice la2 vals.length lcap) vals) (hvl : vals.length = ls.length)
    (hv : ∀ (i : Nat) (x : Value) (l : List UInt8), vals[i]? = some x → ls[i]? = some l → Row1 w x (l.map bval))
    (g2 : ns.length ≤ 40) (g3 : vals.length ≤ 40) (hq : 0 ≤ q) (hq2 : q ≤ 9223372036854775807) (m3 : ns.length ≤ ncap) (m4 : ncap ≤ maxLen) (m5 : vals.length ≤ lcap) (m6 : lcap ≤ maxLen) :
    Calls Try.prog 6 #[.slice na ns.length ncap, .slice la2 vals.length lcap, .int .i64 q] w fun e w' => e = .returned (.bool true) ∧ Below w.heap.size w w' := by
  unfold maxLen at m4 m6
  have HNV := Lib.hid hn
  have HLV := Lib.hid hl
  have HVL := Lib.hid hvl
  have HV := Lib.hid hv
  have HWF := Lib.hid hwf
  clear hn hl hvl hv hwf
  have d2 : decide ((40 : Int) < (ns.length : Int)) = false := decide_eq_false (by omega)
  have d3 : decide ((40 : Int) < (vals.length : Int)) = false := decide_eq_false (by omega)
  have d4 : decide (q < 0) = false := decide_eq_false (by omega)
  go_enter Try.func6, Try.ntmps6
  go_wp2_with fail
  refine (alive_any HI _).mono ?_
  rintro e w1 ⟨rfl, hb1⟩
  have HB1 := Lib.hid hb1
  clear hb1
  have HR1 := Lib.hid (rint_any (bl := []) w1 (Row1.nil w1) (HNV.out.below HB1.out) (by simp; omega))
  go_wp2_with fail
  refine HR1.out.mono ?_
  rintro e w2 ⟨v2, rfl, hown2, hb2⟩
  have hrow2 : Row1 w2 v2 ((be8s ns ++ putL (ls.take 0)).map bval) := by
    have := Row1.of_own hown2
    simpa [putL] using this
  have HB2 := Lib.hid (HB1.out.trans (hb2.mono HB1.out.size))
  have HROW2 := Lib.hid hrow2
  clear hown2 hb2 hrow2
  go_wp2_with fail
  go_loopw [8, 9] (fun v i wr => ∃ k : Nat, k ≤ vals.length ∧ i = .int .i64 k ∧ (∀ j, j < k → (ls.getD j []).length ≤ 300) ∧ Row1 wr v ((be8s ns ++ putL (ls.take k)).map bval) ∧ (putL (ls.take k)).length ≤ k * 308 ∧ Below w.heap.size w wr) (fun _ i _ => vals.length - (intOf i).toNat)
  case atStart => exact ⟨0, Nat.zero_le _, rfl, fun j hj => by omega, HROW2.out, by simp [putL], HB2.out⟩
  case round =>
    obtain ⟨k, hk, rfl, hall, hrv, hple, hbel⟩ := hrel
    have HALL := Lib.hid hall
    clear hall
    by_cases hlt : k < vals.length
    · have hvl := HVL.out
      have hkl : k < ls.length := by omega
      have hvk : vals[k]? = some (vals[k]'(by omega)) := List.getElem?_eq_getElem _
      have hlk : ls[k]? = some (ls[k]'hkl) := List.getElem?_eq_getElem _
      have hg : ls.getD k [] = ls[k]'hkl := by simp [List.getD, hkl]
      have hrow := HV.out k _ _ hvk hlk
      have hpl := putL_take_succ (ls := ls) (k := k) hkl
      obtain ⟨a, lcap', e1, _, _, _, h4⟩ := HLV.out
      cases e1
      obtain ⟨b, off, rfl, hbw, hc⟩ := h4 (by intro e; rw [e] at hlt; exact absurd hlt (by simp))
      have c1 := hbel.cell (p := ⟨b, off + k, none⟩) hbw
      rw [hc k hlt, hvk] at c1
      generalize ls[k]'hkl = l at *
      generalize vals[k]'(by omega) = xv at *
      have hrowr := hrow.below hbel
      obtain ⟨xa, xcap, rfl, lc1, lc2, lc3, lc4⟩ := hrow
      rw [List.length_map] at c1 lc1 hrowr
      have i0' : (0 : Int) ≤ (k : Int) := Int.natCast_nonneg _
      have i1 : (k : Int) < (vals.length : Int) := by omega
      have HG := Lib.hid hg
      have HPL := Lib.hid hpl
      have HRV := Lib.hid hrv
      have HBE := Lib.hid hbel
      have HRX := Lib.hid hrowr
      clear hvl hvk hlk hg hc h4 lc3 lc4 hpl hrv hbel hrowr
      by_cases hlong : 300 < l.length
      · go_wp2_with fail
        go_ret
        exact ⟨rfl, HBE.out⟩
      · have hall2 : Hid (∀ j, j < k + 1 → (ls.getD j []).length ≤ 300) := Lib.hid fun j hj => by
          rcases Nat.lt_or_ge j k with h | h
          · exact HALL.out j h
          · have : j = k := by omega
            subst this
            rw [HG.out]
            omega
        have hshort : l.length ≤ 300 := by omega
        clear hlong
        go_wp2_with fail
        have hrb : RowB (wr.alloc (.cells #[.slice xa l.length xcap] 22)) (.slice (some ⟨wr.heap.size, 0, none⟩) 1 1) [l] :=
          ⟨[.slice xa l.length xcap], Row1.made wr #[.slice xa l.length xcap] 22 _ 1 _ rfl rfl rfl (by unfold maxLen; omega), rfl, fun i x m hx hm => by
            cases i with
            | zero =>
              simp at hx hm
              subst hx; subst hm
              exact HRX.out.alloc _
            | succ i => simp at hx⟩
        have hp1 : putL [l] = be8 l.length ++ l := by simp [putL]
        have HRB := Lib.hid (rbytes_any (bl := be8s ns ++ putL (ls.take k)) (wr.alloc (.cells #[.slice xa l.length xcap] 22)) (HRV.out.alloc _) hrb (by rw [hp1]; simp [be8s_length, be8_length]; omega))
        clear hrb hp1
        refine HRB.out.mono ?_
        rintro e w3 ⟨v3, rfl, hown3, hb3⟩
        have hrow3 : Row1 w3 v3 ((be8s ns ++ putL (ls.take (k + 1))).map bval) := by
          have := Row1.of_own hown3
          rw [HPL.out, ← List.append_assoc]
          simpa [putL] using this
        have hple3 : (putL (ls.take (k + 1))).length ≤ (k + 1) * 308 := by
          rw [HPL.out, List.length_append, List.length_append, be8_length]
          omega
        have HB3 := Lib.hid (HBE.out.trans (((Below.refl wr.heap.size wr).alloc (Nat.le_refl _) _ |>.trans (hb3.mono (by simp))).mono HBE.out.size))
        have HROW3 := Lib.hid hrow3
        have HPLE3 := Lib.hid hple3
        clear hown3 hb3 hrow3 hple3
        go_wp2_with fail
        go_roundw
        case rel => exact ⟨k + 1, by omega, by go_num, hall2.out, HROW3.out, HPLE3.out, HB3.out⟩
        case measure => simp [intOf]; omega
    · have hk' : k = vals.length := by omega
      subst hk'
      have hvl := HVL.out
      have HLL : Hid (∀ l ∈ ls, l.length ≤ 300) := Lib.hid (fun l hl => by
        obtain ⟨j, hj, rfl⟩ := List.getElem_of_mem hl
        have := HALL.out j (by omega)
        simpa [List.getD, hj] using this)
      rw [List.take_of_length_le (by omega)] at hrv hple
      have hN : (be8s ns ++ putL ls).length = 8 * ns.length + (putL ls).length := by rw [List.length_append, be8s_length]
      have hNle : (be8s ns ++ putL ls).length ≤ 20000 := by
        have : vals.length * 308 ≤ 40 * 308 := Nat.mul_le_mul_right _ g3
        omega
      obtain ⟨ba, bcap, rfl, n1, n2, n3, n4⟩ := id hrv
      rw [List.length_map] at n1 hrv
      rw [List.length_map]
      have HNN := Lib.hid hN
      have HBE := Lib.hid hbel
      generalize hNN : (be8s ns ++ putL ls).length = N at *
      obtain ⟨kk, hkk⟩ : ∃ kk : Nat, q % ((N : Int) + 1) = kk := ⟨(q % ((N : Int) + 1)).toNat, by have := Int.emod_nonneg q (show ((N : Int) + 1) ≠ 0 by omega); omega⟩
      have hkN : kk ≤ N := by have := Int.emod_lt_of_pos q (show (0 : Int) < (N : Int) + 1 by omega); omega
      have HCUT := Lib.hid (hrv.firsts kk (by rw [List.length_map]; omega))
      rw [← List.map_take] at HCUT
      have HNN2 := Lib.hid hNN
      have k0 : (0 : Int) ≤ (kk : Int) := Int.natCast_nonneg _
      have kc : (kk : Int) ≤ (bcap : Int) := by omega
      have kc2 : kk ≤ bcap := by omega
      have N0 : (0 : Int) ≤ (N : Int) := Int.natCast_nonneg _
      unfold maxLen at n2
      clear hvl hrv hple hN n3 n4 hbel hNN
      have HNEW := Lib.hid (C.new _ ((be8s ns ++ putL ls).take kk) wr HCUT.out (by rw [List.length_take]; omega))
      go_wp2_with fail
      rw [hkk]
      have hLlen : ((be8s ns ++ putL ls).take kk).length = kk := by rw [List.length_take, HNN2.out]; omega
      obtain ⟨L, hL⟩ : ∃ L, L = (be8s ns ++ putL ls).take kk := ⟨_, rfl⟩
      rw [← hL] at HNEW hLlen
      have HL := Lib.hid hL
      have HLL2 := Lib.hid hLlen
      clear hL hLlen hkk
      refine HNEW.out.mono ?_
      rintro e w4 ⟨B, c, rfl, hpc, hcw, hb4⟩
      have HB4 := Lib.hid (HBE.out.trans (hb4.mono HBE.out.size))
      have hcw' : w.heap.size ≤ c := Nat.le_trans HBE.out.size hcw
      have HP := Lib.hid hpc
      clear hpc hb4 hcw
      go_wp2_with fail
      obtain ⟨wo, rfl⟩ : ∃ wo : World, wo = wr := ⟨_, rfl⟩
      go_loopw [12, 13] (fun at_ i wr => ∃ (k p : Nat) (bad : Bool), k ≤ ns.length ∧ i = .int .i64 k ∧ at_ = .int .i64 ((8 * k : Nat) : Int) ∧ PC wr B c L p bad ∧ (8 * k ≤ kk → bad = false ∧ p = 8 * k) ∧ (kk < 8 * k → bad = true) ∧ Below w.heap.size w wr) (fun _ i _ => ns.length - (intOf i).toNat)
      case atStart => exact ⟨0, 0, false, Nat.zero_le _, rfl, rfl, HP.out, (fun _ => ⟨rfl, rfl⟩), (fun h => by omega), HB4.out⟩
      case round =>
        obtain ⟨k, p, bad, hk, rfl, rfl, hpc, hs1, hs2, hbel⟩ := hrel
        have i0' : (0 : Int) ≤ (k : Int) := Int.natCast_nonneg _
        have k40 : k ≤ 40 := by omega
        by_cases hlt : k < ns.length
        · obtain ⟨a, cap, e1, _, _, _, h4⟩ := HNV.out
          rw [List.length_map] at e1
          cases e1
          obtain ⟨b, off, rfl, hbw, hc⟩ := h4 (by intro e; rw [List.map_eq_nil_iff.1 e] at hlt; exact absurd hlt (Nat.not_lt_zero _))
          have c1 := hbel.cell (p := ⟨b, off + k, none⟩) hbw
          rw [hc k (by simpa using hlt), List.getElem?_map, List.getElem?_eq_getElem hlt, Option.map_some] at c1
          have hbc : b < wr.heap.size := Nat.lt_of_lt_of_le hbw hbel.size
          have hbne : b ≠ c := by omega
          have i1 : (k : Int) < (ns.length : Int) := by omega
          by_cases hcase : 8 * (k + 1) ≤ kk
          · obtain ⟨rfl, rfl⟩ := hs1 (by omega)
            have hnb := bounds_i64 (HWF.out _ (List.getElem_mem hlt))
            have hat : decI ((L.drop (8 * k)).take 8) = ns[k] := by
              rw [HL.out, cut_at (by omega), be8s_at ns k hlt, decI_be8 _ hnb.1 hnb.2]
            have hci := C.int_yes wr B c L (8 * k) hpc (by rw [HLL2.out]; omega)
            rw [hat] at hci
            have HCI := Lib.hid hci
            have HBW := Lib.hid hbel
            generalize ns[k] = x at *
            have t1 : decide (8 * (k : Int) + 8 ≤ (kk : Int)) = true := decide_eq_true (by omega)
            have t2 : decide ((kk : Int) < 8 * (k : Int) + 8) = false := decide_eq_false (by omega)
            clear hc h4 hnb hat hci hs1 hs2 hpc hbel
            go_wp2_with fail
            refine HCI.out.mono ?_
            rintro e w5 ⟨rfl, hp5, hg5⟩
            have c5 := (hg5.cell_far ⟨b, off + k, none⟩ hbc (by simp [hbne])).trans c1
            have HP5 := Lib.hid hp5
            have HB5 := Lib.hid (HBW.out.grown hg5 HBW.out.size (fun r hr => by cases hr; exact hcw'))
            clear hp5 hg5 c1
            go_wp2_with fail
            go_roundw
            case rel => exact ⟨k + 1, 8 * k + 8, false, by omega, by go_num, by go_num, HP5.out, (fun _ => ⟨rfl, by omega⟩), (fun h => by omega), HB5.out⟩
            case measure => simp [intOf]; omega
          · have hno : bad = true ∨ L.length < p + 8 := by
              rw [HLL2.out]
              by_cases h : 8 * k ≤ kk
              · obtain ⟨_, rfl⟩ := hs1 h
                exact Or.inr (by omega)
              · exact Or.inl (hs2 (by omega))
            have HCI := Lib.hid (C.int_no wr B c L p bad hpc hno)
            have HBW := Lib.hid hbel
            generalize ns[k] = x at *
            have t1 : decide (8 * (k : Int) + 8 ≤ (kk : Int)) = false := decide_eq_false (by omega)
            have t2 : decide ((kk : Int) < 8 * (k : Int) + 8) = true := decide_eq_true (by omega)
            clear hc h4 hs1 hs2 hpc hbel hno c1
            go_wp2_with fail
            refine HCI.out.mono ?_
            rintro e w5 ⟨rfl, hp5, hg5⟩
            have HBD := Lib.hid (C.badB w5 B c L p true hp5)
            have HP5 := Lib.hid hp5
            have HB5 := Lib.hid (HBW.out.grown hg5 HBW.out.size (fun r hr => by cases hr; exact hcw'))
            clear hp5 hg5
            go_wp2_with fail
            refine HBD.out.mono ?_
            rintro e w6 ⟨rfl, hb6⟩
            have hp6 := C.below HP5.out hb6
            have HLF := Lib.hid (C.leftB w6 B c L p true hp6)
            have HP6 := Lib.hid hp6
            have HB6 := Lib.hid (HB5.out.trans (hb6.mono HB5.out.size))
            clear hp6 hb6
            go_wp2_with fail
            refine HLF.out.mono ?_
            rintro e w7 ⟨rfl, hb7⟩
            have HP7 := Lib.hid (C.below HP6.out hb7)
            have HB7 := Lib.hid (HB6.out.trans (hb7.mono HB6.out.size))
            clear hb7
            go_wp2_with fail
            go_roundw
            case rel => exact ⟨k + 1, p, true, by omega, by go_num, by go_num, HP7.out, (fun h => by omega), (fun _ => rfl), HB7.out⟩
            case measure => simp [intOf]; omega
        · have hk' : k = ns.length := by omega
          subst hk'
          have HPC := Lib.hid hpc
          have HS1 := Lib.hid hs1
          have HS2 := Lib.hid hs2
          have HBW := Lib.hid hbel
          clear hpc hs1 hs2 hbel
          go_wp2_with fail
          obtain ⟨wo2, rfl⟩ : ∃ wo2 : World, wo2 = wr := ⟨_, rfl⟩
          go_loopw [12, 15] (fun at_ i wr => ∃ (k p : Nat) (bad : Bool), k ≤ vals.length ∧ i = .int .i64 k ∧ at_ = .int .i64 ((8 * ns.length + (putL (ls.take k)).length : Nat) : Int) ∧ PC wr B c L p bad ∧ (8 * ns.length + (putL (ls.take k)).length ≤ kk → bad = false ∧ p = 8 * ns.length + (putL (ls.take k)).length) ∧ (kk < 8 * ns.length + (putL (ls.take k)).length → bad = true) ∧ Below w.heap.size w wr) (fun _ i _ => vals.length - (intOf i).toNat)
          case atStart => exact ⟨0, p, bad, Nat.zero_le _, rfl, by simp [putL], HPC.out, by simpa [putL] using HS1.out, by simpa [putL] using HS2.out, HBW.out⟩
          case round =>
            clear HPC HS1 HS2 HBW
            obtain ⟨k, p, bad, hk, rfl, rfl, hpc, hs1, hs2, hbel⟩ := hrel
            have j0' : (0 : Int) ≤ (k : Int) := Int.natCast_nonneg _
            by_cases hlt : k < vals.length
            · have hvl := HVL.out
              have hkl : k < ls.length := by omega
              have hvk : vals[k]? = some (vals[k]'(by omega)) := List.getElem?_eq_getElem _
              have hlk : ls[k]? = some (ls[k]'hkl) := List.getElem?_eq_getElem _
              have hrow := HV.out k _ _ hvk hlk
              obtain ⟨a, lcap', e1, _, _, _, h4⟩ := HLV.out
              cases e1
              obtain ⟨b, off, rfl, hbw, hc⟩ := h4 (by intro e; rw [e] at hlt; exact absurd hlt (Nat.not_lt_zero _))
              have c1 := hbel.cell (p := ⟨b, off + k, none⟩) hbw
              rw [hc k hlt, hvk] at c1
              have hat := (putL_at (be8s ns) ls k hkl)
              rw [be8s_length] at hat
              have hple := putL_take_le ls (k + 1)
              have hpls := putL_take_succ (ls := ls) (k := k) hkl
              have hpos : (putL (ls.take (k + 1))).length = (putL (ls.take k)).length + 8 + (ls[k]'hkl).length := by
                rw [hpls]
                simp [be8_length]
                omega
              have hs300 := HLL.out (ls[k]'hkl) (List.getElem_mem hkl)
              have hdec0 : 8 * ns.length + (putL (ls.take k)).length + 8 ≤ kk → decI ((L.drop (8 * ns.length + (putL (ls.take k)).length)).take 8) = ((ls[k]'hkl).length : Int) := fun h => by
                rw [HL.out, cut_at h, hat.1, decI_be8 _ (by omega) (by omega)]
              have hlst0 : 8 * ns.length + (putL (ls.take k)).length + 8 + (ls[k]'hkl).length ≤ kk → (L.drop (8 * ns.length + (putL (ls.take k)).length + 8)).take (ls[k]'hkl).length = ls[k]'hkl := fun h => by
                rw [HL.out, cut_at h, hat.2]
              have hNle2 : 8 * ns.length + (putL (ls.take (k + 1))).length ≤ 20000 := by
                have := HNN.out
                omega
              clear hat hple hpls hvl hlk
              generalize ls[k]'hkl = l at *
              generalize vals[k]'(by omega) = xv at *
              rw [hpos] at hNle2
              have HPOS := Lib.hid hpos
              generalize hs : (putL (ls.take k)).length = s at *
              have HS := Lib.hid hs
              have i1 : (k : Int) < (vals.length : Int) := by omega
              have s0 : (0 : Int) ≤ (s : Int) := Int.natCast_nonneg _
              have hbc : b < wr.heap.size := Nat.lt_of_lt_of_le hbw hbel.size
              have hbne : b ≠ c := by omega
              have hrow1 := hrow
              obtain ⟨xa, xcap, rfl, lc1, lc2, _, _⟩ := hrow
              rw [List.length_map] at c1 lc1 hrow1
              have HROW := Lib.hid hrow1
              clear hc h4 hvk hpos hs hrow1
              by_cases hcase : 8 * ns.length + s + 8 + l.length ≤ kk
              · obtain ⟨rfl, rfl⟩ := hs1 (by omega)
                have hby := C.bytes_yes wr B c L (8 * ns.length + s) l.length hpc (by rw [HLL2.out]; omega) (hdec0 (by omega))
                rw [hlst0 hcase] at hby
                have HBY := Lib.hid hby
                have HBW := Lib.hid hbel
                have t1 : decide (8 * (ns.length : Int) + s + (8 + l.length) ≤ (kk : Int)) = true := decide_eq_true (by omega)
                have t2 : decide ((kk : Int) < 8 * (ns.length : Int) + s + (8 + l.length)) = false := decide_eq_false (by omega)
                have t3 : decide (8 * (ns.length : Int) + s + 8 + l.length ≤ (kk : Int)) = true := decide_eq_true (by omega)
                have t4 : decide ((kk : Int) < 8 * (ns.length : Int) + s + 8 + l.length) = false := decide_eq_false (by omega)
                clear hby hs1 hs2 hpc hbel hdec0 hlst0
                go_wp2_with fail
                refine HBY.out.mono ?_
                rintro e w5 ⟨v5, rfl, ho5, hp5, hg5⟩
                have c5 := (hg5.cell_far ⟨b, off + k, none⟩ hbc (by simp [hbne])).trans c1
                have hb5 := HBW.out.grown hg5 HBW.out.size (fun r hr => by cases hr; exact hcw')
                have sx : ∀ n, (convert 22 9 v5).run Try.prog (w5.drewN n) = .ok (.string ⟨l.toArray⟩) (w5.drewN n) := fun n => run_str ((Row1.of_own ho5).drewN n)
                have sl : ∀ n, (convert 22 9 (.slice xa l.length xcap)).run Try.prog (w5.drewN n) = .ok (.string ⟨l.toArray⟩) (w5.drewN n) := fun n => run_str ((HROW.out.below hb5).drewN n)
                have HP5 := Lib.hid hp5
                have HB5 := Lib.hid hb5
                clear hp5 hg5 c1 ho5 hb5
                go_wp2_with fail
                go_quiet (fail)
                go_wp2_with fail
                go_roundw
                case rel => exact ⟨k + 1, 8 * ns.length + s + 8 + l.length, false, by omega, by go_num, by rw [HPOS.out]; go_num, C.keep HP5.out (fun _ _ => rfl) (Nat.le_refl _), (fun _ => ⟨rfl, by rw [HPOS.out]; omega⟩), (fun h => by rw [HPOS.out] at h; omega), below_drewN HB5.out _⟩
                case measure => simp [intOf]; omega
              · have hno : bad = true ∨ L.length < p + 8 ∨ (p + 8 ≤ L.length ∧ (decI ((L.drop p).take 8) < 0 ∨ (L.length : Int) - (p + 8 : Nat) < decI ((L.drop p).take 8))) := by
                  by_cases h : 8 * ns.length + s ≤ kk
                  · obtain ⟨_, rfl⟩ := hs1 h
                    have hl2 := HLL2.out
                    by_cases h2 : 8 * ns.length + s + 8 ≤ kk
                    · have := hdec0 h2
                      rw [this]
                      exact Or.inr (Or.inr ⟨by omega, Or.inr (by omega)⟩)
                    · exact Or.inr (Or.inl (by omega))
                  · exact Or.inl (hs2 (by omega))
                have HBY := Lib.hid (C.bytes_no wr B c L p bad hpc hno)
                have HBW := Lib.hid hbel
                have t1 : decide (8 * (ns.length : Int) + s + (8 + l.length) ≤ (kk : Int)) = false := decide_eq_false (by omega)
                have t2 : decide ((kk : Int) < 8 * (ns.length : Int) + s + (8 + l.length)) = true := decide_eq_true (by omega)
                have t3 : decide (8 * (ns.length : Int) + s + 8 + l.length ≤ (kk : Int)) = false := decide_eq_false (by omega)
                have t4 : decide ((kk : Int) < 8 * (ns.length : Int) + s + 8 + l.length) = true := decide_eq_true (by omega)
                clear hno hs1 hs2 hpc hbel hdec0 hlst0
                go_wp2_with fail
                refine HBY.out.mono ?_
                rintro e w5 ⟨v5, p5, rfl, ho5, hp5, hg5⟩
                have c5 := (hg5.cell_far ⟨b, off + k, none⟩ hbc (by simp [hbne])).trans c1
                obtain ⟨a5, cap5, rfl, _, _, _, _⟩ := id (Row1.of_own ho5)
                have HQ : ∀ n, Calls Try.prog 22 #[.pointer (some ⟨c, 0, none⟩)] (w5.drewN n) fun e w' => e = .returned (.bool true) ∧ ∃ m, w' = (w5.drewN n).drewN m := fun n =>
                  C.bad_ (w5.drewN n) B c L p5 true (C.keep hp5 (fun _ _ => rfl) (Nat.le_refl _))
                have HQH := Lib.hid HQ
                have HP5 := Lib.hid hp5
                have HB5 := Lib.hid (HBW.out.grown hg5 HBW.out.size (fun r hr => by cases hr; exact hcw'))
                clear hp5 hg5 c1 ho5 HQ
                go_wp2_with fail
                go_quiet ((go_at_call 22; exact Calls.quiet_of (HQH.out _)))
                go_wp2_with fail
                go_roundw
                case rel => exact ⟨k + 1, p5, true, by omega, by go_num, by rw [HPOS.out]; go_num, C.keep HP5.out (fun _ _ => rfl) (Nat.le_refl _), (fun h => by rw [HPOS.out] at h; omega), (fun _ => rfl), below_drewN HB5.out _⟩
                case measure => simp [intOf]; omega
            · have hk' : k = vals.length := by omega
              subst hk'
              have hvl := HVL.out
              rw [List.take_of_length_le (by omega)] at hs1 hs2 ⊢
              rw [← HNN.out] at hs1 hs2 ⊢
              have hend : bad = decide (kk < N) ∧ (!bad && decide (p = L.length)) = decide (kk = N) := by
                rw [HLL2.out]
                by_cases h : kk < N
                · have := hs2 h
                  subst this
                  simp [h]
                  omega
                · obtain ⟨hb0, hp0⟩ := hs1 (by omega)
                  subst hb0
                  have hkn : kk = N := by omega
                  rw [hp0, hkn]
                  simp
              have HEN := Lib.hid (C.endB wr B c L p bad hpc)
              rw [hend.2] at HEN
              have HPC := Lib.hid hpc
              have HBW := Lib.hid hbel
              have e1 : ((kk : Int) == (N : Int)) = decide (kk = N) := by by_cases h : kk = N <;> simp [h]; omega
              have e2 : decide ((kk : Int) < (N : Int)) = decide (kk < N) := by by_cases h : kk < N <;> simp [h]
              have e3 := hend.1
              have HE3 := Lib.hid e3
              generalize hq1 : decide (kk = N) = q1 at *
              generalize hq3 : decide (kk < N) = q3 at *
              clear hs1 hs2 hpc hbel hvl hend e3 hq1
              go_wp2_with fail
              refine HEN.out.mono ?_
              rintro e w5 ⟨rfl, hb5⟩
              have HBD := Lib.hid (C.badB w5 B c L p bad (C.below HPC.out hb5))
              rw [HE3.out] at HBD
              have HB5 := Lib.hid (HBW.out.trans (hb5.mono HBW.out.size))
              clear hb5
              go_wp2_with fail
              refine HBD.out.mono ?_
              rintro e w6 ⟨rfl, hb6⟩
              have HB6 := Lib.hid (HB5.out.trans (hb6.mono HB5.out.size))
              clear hb6
              go_wp2_with fail
              go_ret
              exact ⟨by simp, HB6.out⟩

set_option maxRecDepth 100000 in
set_option maxHeartbeats 400000 in
theorem packCuts_out (HI : IntSaid) (na la : Option Addr) (nn ncap ln lcap : Nat) (q : Int) (w : World) (m3 : nn ≤ ncap) (m4 : ncap ≤ maxLen) (m5 : ln ≤ lcap) (m6 : lcap ≤ maxLen) (h : ¬ (nn ≤ 40 ∧ ln ≤ 40 ∧ 0 ≤ q)) :
    Calls Try.prog 6 #[.slice na nn ncap, .slice la ln lcap, .int .i64 q] w fun e w' => e = .returned (.bool true) ∧ Below w.heap.size w w' := by
  unfold maxLen at m4 m6
  have hc : 40 < nn ∨ (nn ≤ 40 ∧ 40 < ln) ∨ (nn ≤ 40 ∧ ln ≤ 40 ∧ q < 0) := by omega
  clear h
  rcases hc with h1 | ⟨h1, h2⟩ | ⟨h1, h2, h3⟩
  all_goals
    go_enter Try.func6, Try.ntmps6
    go_wp2_with fail
    refine (alive_any HI _).mono ?_
    rintro e w1 ⟨rfl, hb1⟩
    have HB1 := Lib.hid hb1
    clear hb1
    go_wp2_with fail
    go_ret
    exact ⟨rfl, HB1.out⟩

theorem packCuts_any (HI : IntSaid) (C : CurSaid PC) {nv lv : Value} {ns : List Int} {ls : List (List UInt8)} {q : Int} (w : World) (hn : Row1 w nv (ns.map (.int .i64))) (hwf : ∀ n ∈ ns, (Lit.int .i64 n).wf = true) (hl : RowB w lv ls) (hq : (Lit.int .i64 q).wf = true) :
    Calls Try.prog 6 #[nv, lv, .int .i64 q] w fun e w' => e = .returned (.bool true) ∧ Below w.heap.size w w' := by
  obtain ⟨vals, hl1, hl2, hl3⟩ := hl
  obtain ⟨na, ncap, rfl, m3, m4, _, _⟩ := id hn
  obtain ⟨la, lcap, rfl, m5, m6, _, _⟩ := id hl1
  rw [List.length_map] at m3 hn ⊢
  have hqb := bounds_i64 hq
  by_cases h : ns.length ≤ 40 ∧ vals.length ≤ 40 ∧ 0 ≤ q
  · exact packCuts_in HI C la ncap lcap na ns vals ls q w hn hwf hl1 hl2 hl3 h.1 h.2.1 h.2.2 hqb.2 m3 m4 m5 m6
  · exact packCuts_out HI na la _ ncap _ lcap q w m3 m4 m5 m6 h

end Go.Proofs.Ytcgppiniknnjpaa
