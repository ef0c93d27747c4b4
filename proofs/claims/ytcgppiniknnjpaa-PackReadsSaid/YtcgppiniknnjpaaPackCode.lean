/- The walks of package pack's own functions: what each owes, in the words of the contracts. Each theorem names its own conditions. -/
import Derived.Test.YtcgppiniknnjpaaPackCur
namespace Go.Proofs.Ytcgppiniknnjpaa
open Go.RowKit
set_option linter.unusedVariables false

set_option maxHeartbeats 400000 in
theorem room_any {bv : Value} {bl : List UInt8} (r : Nat) (w : World) (hb : Row1 w bv (bl.map bval)) (hsz : bl.length + r ≤ 1099511627776) :
    Calls Try.prog 25 #[bv, .int .i64 r] w fun e w' => ∃ v, e = .returned v ∧ w'.ownsRow w.heap.size 5 1 v bl.length (bl.map bval) ∧ Below w.heap.size w w' := by
  obtain ⟨i0, hi, hz0, hz1, hz2⟩ := info_parts Try.info5
  have hb0 := hb
  obtain ⟨a, cap, rfl, h1, h2, h3, h4⟩ := hb
  rw [List.length_map] at h1 hb0 ⊢
  unfold maxLen at h2
  clear h3 h4
  have hr0 : (0 : Int) ≤ (r : Int) := Int.natCast_nonneg _
  obtain ⟨wm, hmk, hmo, hmg⟩ := run_make_own (P := Try.prog) w w.heap.size 22 5 i0 (.int .u8 0) 1 Try.underlying22 hi hz0 hz1 .i64 .i64 (bl.length + r) (by rw [hz2]; omega) (by unfold maxLen; omega) (Nat.le_refl _)
  rw [show ((bl.length + r : Nat) : Int) = (bl.length : Int) + (r : Int) from by omega] at hmk
  have hrb := Lib.hid (hb0.grown hmg (fun k hk => by cases hk))
  have HMO := Lib.hid hmo
  have HMG := Lib.hid hmg
  have hbl : Hid ((bl.map bval).length = bl.length) := Lib.hid (by simp)
  clear hmo hmg hb0
  go_enter Try.func25, Try.ntmps25
  go_wp2_with (at_builtin; refine wpList_append_row rfl _ _ 22 rfl w.heap.size 5 i0 (.int .u8 0) 1 Try.underlying22 hi hz0 hz1 hz2 rfl _ 0 [] rfl HMO.out rfl hrb.out (bval_one _) (by rw [hbl.out]; unfold maxLen; omega) (by rw [hbl.out]; omega) HMG.out.size ?_; intro v2 w2 hown2 hgrow2)
  have hb2 : Below w.heap.size w w2 := ((Below.refl _ _).grown HMG.out (Nat.le_refl _) (fun r hr => by cases hr)).grown hgrow2 HMG.out.size (fun r hr => (HMO.out.lt r hr).1)
  rw [List.nil_append, hbl.out, Nat.zero_add] at hown2
  have HO := Lib.hid hown2
  have HB := Lib.hid hb2
  clear hown2 hgrow2 hb2
  go_wp2_with fail
  go_ret
  exact ⟨_, rfl, HO.out, HB.out⟩

theorem be8_cells (n : Int) : (be8 n).map bval = [.int .u8 (n / 72057594037927936 % 256), .int .u8 (n / 281474976710656 % 256), .int .u8 (n / 1099511627776 % 256), .int .u8 (n / 4294967296 % 256), .int .u8 (n / 16777216 % 256), .int .u8 (n / 65536 % 256), .int .u8 (n / 256 % 256), .int .u8 (n % 256)] := by
  simp [be8, byte_cell]

set_option maxHeartbeats 2000000 in
theorem appnum_any (base : Nat) (ov : Value) (m : Nat) (xs : List Value) (n : Int) (w : World) (ho : w.ownsRow base 5 1 ov m xs) (hbase : base ≤ w.heap.size) (hm : m ≤ 1099511627776) :
    Calls Try.prog 26 #[ov, .int .i64 n] w fun e w' => ∃ v, e = .returned v ∧ w'.ownsRow base 5 1 v (m + 8) (xs ++ (be8 n).map bval) ∧ Below base w w' := by
  obtain ⟨i0, hi, hz0, hz1, hz2⟩ := info_parts Try.info5
  have HO := Lib.hid ho
  have HB := Lib.hid (Below.refl base w)
  have hbase0 := hbase
  clear ho
  go_enter Try.func26, Try.ntmps26
  go_wp2_with fail
  refine wp_loop_rounds 9 ?_
  rw [rounds_succ]
  go_wp2_with (at_builtin; refine wpList_append_row rfl _ _ 22 rfl base 5 i0 (.int .u8 0) 1 Try.underlying22 hi hz0 hz1 hz2 rfl _ (m + 0) _ rfl (HO.out.alloc _) rfl (Row1.made _ _ _ _ 1 _ rfl rfl rfl (by unfold maxLen; omega)) (by simp [Value.oneCell']) (by unfold maxLen; simp; omega) (by simp; omega) (by simp; omega) ?_; intro v1 w1 hown1 hgrow1)
  have hb1 := (HB.out.alloc hbase _).grown hgrow1 (by simp; omega) (fun r hr => (HO.out.lt r hr).1)
  have hbase := Nat.le_trans hbase0 hb1.size
  clear HO HB
  have HO := Lib.hid hown1
  have HB := Lib.hid hb1
  clear hown1 hb1 hgrow1
  rw [rounds_succ]
  go_wp2_with (at_builtin; refine wpList_append_row rfl _ _ 22 rfl base 5 i0 (.int .u8 0) 1 Try.underlying22 hi hz0 hz1 hz2 rfl _ (m + 1) _ rfl (HO.out.alloc _) rfl (Row1.made _ _ _ _ 1 _ rfl rfl rfl (by unfold maxLen; omega)) (by simp [Value.oneCell']) (by unfold maxLen; simp; omega) (by simp; omega) (by simp; omega) ?_; intro v2 w2 hown2 hgrow2)
  have hb2 := (HB.out.alloc hbase _).grown hgrow2 (by simp; omega) (fun r hr => (HO.out.lt r hr).1)
  have hbase := Nat.le_trans hbase0 hb2.size
  clear HO HB
  have HO := Lib.hid hown2
  have HB := Lib.hid hb2
  clear hown2 hb2 hgrow2
  rw [rounds_succ]
  go_wp2_with (at_builtin; refine wpList_append_row rfl _ _ 22 rfl base 5 i0 (.int .u8 0) 1 Try.underlying22 hi hz0 hz1 hz2 rfl _ (m + 2) _ rfl (HO.out.alloc _) rfl (Row1.made _ _ _ _ 1 _ rfl rfl rfl (by unfold maxLen; omega)) (by simp [Value.oneCell']) (by unfold maxLen; simp; omega) (by simp; omega) (by simp; omega) ?_; intro v3 w3 hown3 hgrow3)
  have hb3 := (HB.out.alloc hbase _).grown hgrow3 (by simp; omega) (fun r hr => (HO.out.lt r hr).1)
  have hbase := Nat.le_trans hbase0 hb3.size
  clear HO HB
  have HO := Lib.hid hown3
  have HB := Lib.hid hb3
  clear hown3 hb3 hgrow3
  rw [rounds_succ]
  go_wp2_with (at_builtin; refine wpList_append_row rfl _ _ 22 rfl base 5 i0 (.int .u8 0) 1 Try.underlying22 hi hz0 hz1 hz2 rfl _ (m + 3) _ rfl (HO.out.alloc _) rfl (Row1.made _ _ _ _ 1 _ rfl rfl rfl (by unfold maxLen; omega)) (by simp [Value.oneCell']) (by unfold maxLen; simp; omega) (by simp; omega) (by simp; omega) ?_; intro v4 w4 hown4 hgrow4)
  have hb4 := (HB.out.alloc hbase _).grown hgrow4 (by simp; omega) (fun r hr => (HO.out.lt r hr).1)
  have hbase := Nat.le_trans hbase0 hb4.size
  clear HO HB
  have HO := Lib.hid hown4
  have HB := Lib.hid hb4
  clear hown4 hb4 hgrow4
  rw [rounds_succ]
  go_wp2_with (at_builtin; refine wpList_append_row rfl _ _ 22 rfl base 5 i0 (.int .u8 0) 1 Try.underlying22 hi hz0 hz1 hz2 rfl _ (m + 4) _ rfl (HO.out.alloc _) rfl (Row1.made _ _ _ _ 1 _ rfl rfl rfl (by unfold maxLen; omega)) (by simp [Value.oneCell']) (by unfold maxLen; simp; omega) (by simp; omega) (by simp; omega) ?_; intro v5 w5 hown5 hgrow5)
  have hb5 := (HB.out.alloc hbase _).grown hgrow5 (by simp; omega) (fun r hr => (HO.out.lt r hr).1)
  have hbase := Nat.le_trans hbase0 hb5.size
  clear HO HB
  have HO := Lib.hid hown5
  have HB := Lib.hid hb5
  clear hown5 hb5 hgrow5
  rw [rounds_succ]
  go_wp2_with (at_builtin; refine wpList_append_row rfl _ _ 22 rfl base 5 i0 (.int .u8 0) 1 Try.underlying22 hi hz0 hz1 hz2 rfl _ (m + 5) _ rfl (HO.out.alloc _) rfl (Row1.made _ _ _ _ 1 _ rfl rfl rfl (by unfold maxLen; omega)) (by simp [Value.oneCell']) (by unfold maxLen; simp; omega) (by simp; omega) (by simp; omega) ?_; intro v6 w6 hown6 hgrow6)
  have hb6 := (HB.out.alloc hbase _).grown hgrow6 (by simp; omega) (fun r hr => (HO.out.lt r hr).1)
  have hbase := Nat.le_trans hbase0 hb6.size
  clear HO HB
  have HO := Lib.hid hown6
  have HB := Lib.hid hb6
  clear hown6 hb6 hgrow6
  rw [rounds_succ]
  go_wp2_with (at_builtin; refine wpList_append_row rfl _ _ 22 rfl base 5 i0 (.int .u8 0) 1 Try.underlying22 hi hz0 hz1 hz2 rfl _ (m + 6) _ rfl (HO.out.alloc _) rfl (Row1.made _ _ _ _ 1 _ rfl rfl rfl (by unfold maxLen; omega)) (by simp [Value.oneCell']) (by unfold maxLen; simp; omega) (by simp; omega) (by simp; omega) ?_; intro v7 w7 hown7 hgrow7)
  have hb7 := (HB.out.alloc hbase _).grown hgrow7 (by simp; omega) (fun r hr => (HO.out.lt r hr).1)
  have hbase := Nat.le_trans hbase0 hb7.size
  clear HO HB
  have HO := Lib.hid hown7
  have HB := Lib.hid hb7
  clear hown7 hb7 hgrow7
  rw [rounds_succ]
  go_wp2_with (at_builtin; refine wpList_append_row rfl _ _ 22 rfl base 5 i0 (.int .u8 0) 1 Try.underlying22 hi hz0 hz1 hz2 rfl _ (m + 7) _ rfl (HO.out.alloc _) rfl (Row1.made _ _ _ _ 1 _ rfl rfl rfl (by unfold maxLen; omega)) (by simp [Value.oneCell']) (by unfold maxLen; simp; omega) (by simp; omega) (by simp; omega) ?_; intro v8 w8 hown8 hgrow8)
  have hb8 := (HB.out.alloc hbase _).grown hgrow8 (by simp; omega) (fun r hr => (HO.out.lt r hr).1)
  have hbase := Nat.le_trans hbase0 hb8.size
  clear HO HB
  have HO := Lib.hid hown8
  have HB := Lib.hid hb8
  clear hown8 hb8 hgrow8
  rw [rounds_succ]
  go_wp2_with fail
  go_ret
  refine ⟨_, rfl, ?_, HB.out⟩
  rw [be8_cells]
  simpa using HO.out

set_option maxHeartbeats 1000000 in
theorem pint_loop (bv : Value) (bl : List UInt8) (b off cap n : Nat) (ns : List Int) (w : World) (hb : Row1 w bv (bl.map bval)) (hn : ns.length = n) (hn0 : 0 < n) (hcap : n ≤ cap) (hm : cap ≤ maxLen) (hbw : b < w.heap.size)
    (hx : ∀ i, i < ns.length → w.cell? ⟨b, off + i, none⟩ = some (.int .i64 (ns.getD i 0))) (hsz : bl.length + 8 * n ≤ 1099511627776) :
    Calls Try.prog 9 #[bv, .slice (some ⟨b, off, none⟩) n cap] w fun e w' => ∃ v, e = .returned v ∧ w'.ownsRow w.heap.size 5 1 v (bl.length + 8 * n) ((bl ++ be8s ns).map bval) ∧ Below w.heap.size w w' := by
  unfold maxLen at hm
  have HX := Lib.hid hx
  have HN := Lib.hid hn
  have hroom := room_any (8 * n) w hb (by omega)
  rw [show ((8 * n : Nat) : Int) = 8 * (n : Int) from by omega] at hroom
  have HR := Lib.hid hroom
  clear hx hn hb hroom
  go_enter Try.func9, Try.ntmps9
  go_wp2_with fail
  refine HR.out.mono ?_
  rintro e w1 ⟨v1, rfl, hown1, hbel1⟩
  have HO1 := Lib.hid hown1
  have HB1 := Lib.hid hbel1
  clear hown1 hbel1
  go_wp2_with fail
  go_loopw [5, 15] (fun v i wr => ∃ k : Nat, k ≤ n ∧ i = .int .i64 k ∧ wr.ownsRow w.heap.size 5 1 v (bl.length + 8 * k) ((bl ++ be8s (ns.take k)).map bval) ∧ Below w.heap.size w wr) (fun _ i _ => n - (intOf i).toNat)
  case atStart => exact ⟨0, Nat.zero_le _, rfl, by simpa [be8s] using HO1.out, HB1.out⟩
  case round =>
    obtain ⟨k, hk, rfl, hown, hbel⟩ := hrel
    by_cases hlt : k < n
    · have hn := HN.out
      have c1 := hbel.cell (p := ⟨b, off + k, none⟩) hbw
      rw [HX.out k (by omega)] at c1
      have i0' : (0 : Int) ≤ (k : Int) := Int.natCast_nonneg _
      have i1 : (k : Int) < (n : Int) := by omega
      have hnext : be8s (ns.take (k + 1)) = be8s (ns.take k) ++ be8 (ns.getD k 0) := by
        rw [List.take_succ_eq_append_getElem (by omega), be8s_snoc]
        simp [List.getD, show k < ns.length from by omega]
      generalize ns.getD k 0 = x at *
      have HA := Lib.hid (appnum_any w.heap.size _ _ _ x wr hown hbel.size (by omega))
      have HBE := Lib.hid hbel
      have HNX := Lib.hid hnext
      clear hn hown hbel hnext
      go_wp2_with fail
      refine HA.out.mono ?_
      rintro e w2 ⟨v2, rfl, hown2, hbel2⟩
      have hown3 : w2.ownsRow w.heap.size 5 1 v2 (bl.length + 8 * (k + 1)) ((bl ++ be8s (ns.take (k + 1))).map bval) := by
        rw [HNX.out, ← List.append_assoc, List.map_append]
        exact hown2
      have hbel3 := HBE.out.trans hbel2
      clear hown2 hbel2
      have HO3 := Lib.hid hown3
      have HB3 := Lib.hid hbel3
      clear hown3 hbel3
      go_wp2_with fail
      go_roundw
      case rel => exact ⟨k + 1, by omega, by go_num, HO3.out, HB3.out⟩
      case measure => simp [intOf]; omega
    · have hk' : k = n := by omega
      subst hk'
      have hn := HN.out
      rw [List.take_of_length_le (by omega)] at hown
      have HO := Lib.hid hown
      have HBE := Lib.hid hbel
      clear hown hbel hn
      go_wp2_with fail
      go_ret
      exact ⟨_, rfl, HO.out, HBE.out⟩

set_option maxHeartbeats 400000 in
theorem pint_none (bv : Value) (bl : List UInt8) (a : Option Addr) (cap : Nat) (w : World) (hb : Row1 w bv (bl.map bval)) (hsz : bl.length ≤ 1099511627776) (hm : cap ≤ maxLen) :
    Calls Try.prog 9 #[bv, .slice a 0 cap] w fun e w' => ∃ v, e = .returned v ∧ w'.ownsRow w.heap.size 5 1 v bl.length (bl.map bval) ∧ Below w.heap.size w w' := by
  unfold maxLen at hm
  have HR := Lib.hid (room_any 0 w hb (by omega))
  clear hb
  go_enter Try.func9, Try.ntmps9
  go_wp2_with fail
  refine HR.out.mono ?_
  rintro e w1 ⟨v1, rfl, hown1, hbel1⟩
  have HO1 := Lib.hid hown1
  have HB1 := Lib.hid hbel1
  clear hown1 hbel1
  go_wp2_with fail
  refine wp_loop_rounds 1 ?_
  rw [rounds_succ]
  go_wp2_with fail
  go_ret
  exact ⟨_, rfl, HO1.out, HB1.out⟩

/-- pack.Int: a row of the call's own. -/
theorem pint_own {bv lv : Value} {bl : List UInt8} {ns : List Int} (w : World) (hb : Row1 w bv (bl.map bval)) (hl : Row1 w lv (ns.map (.int .i64))) (hsz : bl.length + 8 * ns.length ≤ 1099511627776) :
    Calls Try.prog 9 #[bv, lv] w fun e w' => ∃ v, e = .returned v ∧ w'.ownsRow w.heap.size 5 1 v (bl.length + 8 * ns.length) ((bl ++ be8s ns).map bval) ∧ Below w.heap.size w w' := by
  obtain ⟨a, cap, rfl, h1, h2, h3, h4⟩ := hl
  rw [List.length_map] at h1 ⊢
  by_cases h0 : ns = []
  · subst h0
    have := pint_none bv bl a cap w hb (by omega) h2
    simpa [be8s] using this
  · obtain ⟨b, off, rfl, hbw, hc⟩ := h4 (by simpa using h0)
    exact pint_loop bv bl b off cap ns.length ns w hb rfl (List.length_pos_iff.2 h0) h1 h2 hbw (row_nums hc) hsz

theorem int_said : IntSaid := fun bv lv bl ns w hb hl hsz => (pint_own w hb hl hsz).mono fun e w' h => by
  obtain ⟨v, rfl, h1, h2⟩ := h
  exact ⟨v, rfl, Row1.of_own h1, h2⟩

theorem num_ext {k : IntKind} {a b : Int} (h : a = b) : Value.int k a = Value.int k b := by rw [h]

set_option maxHeartbeats 2000000 in
theorem pbytes_loop (bv : Value) (bl : List UInt8) (b off cap n : Nat) (vals : List Value) (ls : List (List UInt8)) (w : World) (hb : Row1 w bv (bl.map bval)) (hn : vals.length = n) (hn2 : ls.length = n) (hn0 : 0 < n) (hcap : n ≤ cap) (hm : cap ≤ maxLen) (hbw : b < w.heap.size)
    (hx : ∀ i, i < n → w.cell? ⟨b, off + i, none⟩ = vals[i]?) (hv : ∀ (i : Nat) (x : Value) (l : List UInt8), vals[i]? = some x → ls[i]? = some l → Row1 w x (l.map bval))
    (hsz : bl.length + (putL ls).length ≤ 1099511627776) :
    Calls Try.prog 10 #[bv, .slice (some ⟨b, off, none⟩) n cap] w fun e w' => ∃ v, e = .returned v ∧ w'.ownsRow w.heap.size 5 1 v (bl.length + (putL ls).length) ((bl ++ putL ls).map bval) ∧ Below w.heap.size w w' := by
  unfold maxLen at hm
  obtain ⟨i0, hi, hz0, hz1, hz2⟩ := info_parts Try.info5
  have HX := Lib.hid hx
  have HN := Lib.hid hn
  have HN2 := Lib.hid hn2
  have HV := Lib.hid hv
  have HR := Lib.hid (room_any (putL ls).length w hb hsz)
  clear hx hn hn2 hb hv
  go_enter Try.func10, Try.ntmps10
  go_wp2_with fail
  go_loop [5, 13] (fun s i => ∃ k : Nat, k ≤ n ∧ i = .int .i64 k ∧ s = .int .i64 ((putL (ls.take k)).length : Nat)) (fun _ i => n - (intOf i).toNat)
  case atStart => exact ⟨0, Nat.zero_le _, rfl, by simp [putL]⟩
  case round =>
    obtain ⟨k, hk, rfl, rfl⟩ := hrel
    by_cases hlt : k < n
    · have hn := HN.out
      have hn2 := HN2.out
      have hpl := putL_take_succ (ls := ls) (k := k) (by omega)
      have hple := putL_take_le ls (k + 1)
      have hvk : vals[k]? = some (vals[k]'(by omega)) := List.getElem?_eq_getElem _
      have hlk : ls[k]? = some (ls[k]'(by omega)) := List.getElem?_eq_getElem _
      have hrow := HV.out k _ _ hvk hlk
      have c1 := HX.out k hlt
      rw [hvk] at c1
      generalize ls[k]'(by omega) = l at *
      generalize vals[k]'(by omega) = xv at *
      obtain ⟨xa, xcap, rfl, lc1, lc2, lc3, lc4⟩ := hrow
      rw [List.length_map] at c1 lc1
      have i0' : (0 : Int) ≤ (k : Int) := Int.natCast_nonneg _
      have i1 : (k : Int) < (n : Int) := by omega
      have hlen : (putL (ls.take (k + 1))).length = (putL (ls.take k)).length + (8 + l.length) := by rw [hpl]; simp [be8_length]
      have hb1 : (putL (ls.take k)).length + (8 + l.length) ≤ 1099511627776 := by omega
      have j1 : (0 : Int) ≤ ((putL (ls.take k)).length : Int) := Int.natCast_nonneg _
      have HLEN := Lib.hid hlen
      clear hn hn2 hpl hple hvk hlk hlen lc3 lc4
      generalize (putL (ls.take k)).length = s at *
      go_wp2_with fail
      go_round
      case rel => exact ⟨k + 1, by omega, by go_num, by rw [HLEN.out]; go_num⟩
      case measure => simp [intOf]; omega
    · have hk' : k = n := by omega
      subst hk'
      have hn2 := HN2.out
      rw [List.take_of_length_le (by omega)]
      clear hn2
      go_wp2_with fail
      refine HR.out.mono ?_
      rintro e w1 ⟨v1, rfl, hown1, hbel1⟩
      have HO1 := Lib.hid hown1
      have HB1 := Lib.hid hbel1
      clear hown1 hbel1
      go_wp2_with fail
      go_loopw [8, 28] (fun v i wr => ∃ j : Nat, j ≤ k ∧ i = .int .i64 j ∧ wr.ownsRow w.heap.size 5 1 v (bl.length + (putL (ls.take j)).length) ((bl ++ putL (ls.take j)).map bval) ∧ Below w.heap.size w wr) (fun _ i _ => k - (intOf i).toNat)
      case atStart => exact ⟨0, Nat.zero_le _, rfl, by simpa [putL] using HO1.out, HB1.out⟩
      case round =>
        obtain ⟨j, hj, rfl, hown, hbel⟩ := hrel
        by_cases hlt2 : j < k
        · have hn := HN.out
          have hn2 := HN2.out
          have hpl := putL_take_succ (ls := ls) (k := j) (by omega)
          have hple := putL_take_le ls (j + 1)
          have hvk : vals[j]? = some (vals[j]'(by omega)) := List.getElem?_eq_getElem _
          have hlk : ls[j]? = some (ls[j]'(by omega)) := List.getElem?_eq_getElem _
          have hrow := HV.out j _ _ hvk hlk
          have c1 := hbel.cell (p := ⟨b, off + j, none⟩) hbw
          rw [HX.out j hlt2, hvk] at c1
          generalize ls[j]'(by omega) = l at *
          generalize vals[j]'(by omega) = xv at *
          have hrow2 := hrow
          obtain ⟨xa, xcap, rfl, lc1, lc2, lc3, lc4⟩ := hrow
          rw [List.length_map] at c1 lc1 hrow2
          have i0' : (0 : Int) ≤ (j : Int) := Int.natCast_nonneg _
          have i1 : (j : Int) < (k : Int) := by omega
          have hlen : (putL (ls.take (j + 1))).length = (putL (ls.take j)).length + (8 + l.length) := by rw [hpl]; simp [be8_length]
          have hb1 : bl.length + (putL (ls.take j)).length + 8 + l.length ≤ 1099511627776 := by omega
          have HA := Lib.hid (appnum_any w.heap.size _ _ _ (l.length : Int) wr hown hbel.size (by omega))
          have HBE := Lib.hid hbel
          have HPL := Lib.hid hpl
          have HLEN := Lib.hid hlen
          have HROW := Lib.hid hrow2
          have hbL : Hid ((l.map bval).length = l.length) := Lib.hid (by simp)
          clear hn hn2 hpl hple hvk hlk hlen lc3 lc4 hown hbel hrow2
          go_wp2_with fail
          refine HA.out.mono ?_
          rintro e w2 ⟨v2, rfl, hown2, hbel2⟩
          have hbase2 := Nat.le_trans HBE.out.size hbel2.size
          have hrow3 : Row1 w2 (.slice xa l.length xcap) (l.map bval) := HROW.out.below (HBE.out.trans hbel2)
          have HO2 := Lib.hid hown2
          have HB2 := Lib.hid (HBE.out.trans hbel2)
          have HR3 := Lib.hid hrow3
          clear hown2 hbel2 hrow3
          go_wp2_with (at_builtin; refine wpList_append_row rfl _ _ 22 rfl w.heap.size 5 i0 (.int .u8 0) 1 Try.underlying22 hi hz0 hz1 hz2 rfl _ _ _ rfl HO2.out rfl HR3.out (bval_one _) (by rw [hbL.out]; unfold maxLen; omega) (by rw [hbL.out]; omega) hbase2 ?_; intro v3 w3 hown3 hgrow3)
          have hown4 : w3.ownsRow w.heap.size 5 1 v3 (bl.length + (putL (ls.take (j + 1))).length) ((bl ++ putL (ls.take (j + 1))).map bval) := by
            rw [HLEN.out, HPL.out]
            have e1 : bl.length + ((putL (ls.take j)).length + (8 + l.length)) = bl.length + (putL (ls.take j)).length + 8 + (l.map bval).length := by rw [hbL.out]; omega
            have e2 : (bl ++ (putL (ls.take j) ++ (be8 l.length ++ l))).map bval = (bl ++ putL (ls.take j)).map bval ++ (be8 l.length).map bval ++ l.map bval := by
              simp only [List.map_append, List.append_assoc]
            rw [e1, e2]
            exact hown3
          have hbel4 : Below w.heap.size w w3 := HB2.out.grown hgrow3 hbase2 (fun r hr => (HO2.out.lt r hr).1)
          have HO4 := Lib.hid hown4
          have HB4 := Lib.hid hbel4
          clear hown3 hgrow3 hown4 hbel4
          go_wp2_with fail
          go_roundw
          case rel => exact ⟨j + 1, by omega, by go_num, HO4.out, HB4.out⟩
          case measure => simp [intOf]; omega
        · have hj' : j = k := by omega
          subst hj'
          have hn2 := HN2.out
          rw [List.take_of_length_le (by omega)] at hown
          have HO := Lib.hid hown
          have HBE := Lib.hid hbel
          clear hown hbel hn2
          go_wp2_with fail
          go_ret
          exact ⟨_, rfl, HO.out, HBE.out⟩

set_option maxHeartbeats 400000 in
theorem pbytes_none (bv : Value) (bl : List UInt8) (a : Option Addr) (cap : Nat) (w : World) (hb : Row1 w bv (bl.map bval)) (hsz : bl.length ≤ 1099511627776) (hm : cap ≤ maxLen) :
    Calls Try.prog 10 #[bv, .slice a 0 cap] w fun e w' => ∃ v, e = .returned v ∧ w'.ownsRow w.heap.size 5 1 v bl.length (bl.map bval) ∧ Below w.heap.size w w' := by
  unfold maxLen at hm
  have HR := Lib.hid (room_any 0 w hb (by omega))
  clear hb
  go_enter Try.func10, Try.ntmps10
  go_wp2_with fail
  refine wp_loop_rounds 1 ?_
  rw [rounds_succ]
  go_wp2_with fail
  refine HR.out.mono ?_
  rintro e w1 ⟨v1, rfl, hown1, hbel1⟩
  have HO1 := Lib.hid hown1
  have HB1 := Lib.hid hbel1
  clear hown1 hbel1
  go_wp2_with fail
  refine wp_loop_rounds 1 ?_
  rw [rounds_succ]
  go_wp2_with fail
  go_ret
  exact ⟨_, rfl, HO1.out, HB1.out⟩

/-- pack.Bytes: a row of the call's own. -/
theorem pbytes_own {bv lv : Value} {bl : List UInt8} {ls : List (List UInt8)} (w : World) (hb : Row1 w bv (bl.map bval)) (hl : RowB w lv ls) (hsz : bl.length + (putL ls).length ≤ 1099511627776) :
    Calls Try.prog 10 #[bv, lv] w fun e w' => ∃ v, e = .returned v ∧ w'.ownsRow w.heap.size 5 1 v (bl.length + (putL ls).length) ((bl ++ putL ls).map bval) ∧ Below w.heap.size w w' := by
  obtain ⟨vals, ⟨a, cap, rfl, h1, h2, h3, h4⟩, h5, h6⟩ := hl
  by_cases h0 : vals = []
  · subst h0
    have : ls = [] := List.eq_nil_of_length_eq_zero (by simpa using h5.symm)
    subst this
    have := pbytes_none bv bl a cap w hb (by omega) h2
    simpa [putL] using this
  · obtain ⟨b, off, rfl, hbw, hc⟩ := h4 h0
    exact pbytes_loop bv bl b off cap vals.length vals ls w hb rfl h5.symm (List.length_pos_iff.2 h0) h1 h2 hbw hc h6 hsz

theorem bytes_said : BytesSaid := fun bv lv bl ls w hb hl hsz => (pbytes_own w hb hl hsz).mono fun e w' h => by
  obtain ⟨v, rfl, h1, h2⟩ := h
  exact ⟨v, rfl, Row1.of_own h1, h2⟩

end Go.Proofs.Ytcgppiniknnjpaa
