/- Texts that belong together, one behind the other; each says in its own first remark what it shows. -/
import Derived.Test.YtjnnhkodkbhbbaaFormKit
import Derived.Test.YtjnnhkodkbhbbaaInfoKit
import Derived.Test.YtjnnhkodkbhbbaaAllC2
import Derived.StillTailTactics
import Derived.Deep.CutRange
import Derived.Deep.RegionWith
import Derived.Test.YtjnnhkodkbhbbaaDetSteps
import Derived.Test.YtjnnhkodkbhbbaaByteKit
import Derived.Test.YtjnnhkodkbhbbaaDetEnds
import Derived.Test.YtjnnhkodkbhbbaaAllC1
import Derived.Test.YtjnnhkodkbhbbaaProg
import Derived.Test.YtjnnhkodkbhbbaaRowKit
import Derived.ScopeJumps
import Derived.Test.YtjnnhkodkbhbbaaRowMore
import Derived.Test.YtjnnhkodkbhbbaaArrKit

/- The walk of package mac's Same. Each theorem names its own conditions. -/
namespace Go.Proofs.Ytjnnhkodkbhbbaa
open Go.RowKit
set_option linter.unusedVariables false
set_option linter.unusedSimpArgs false

/-- What the lengths, and the first k bytes, are apart. -/
def apartN (a b : List UInt8) : Nat → Nat
  | 0 => a.length ^^^ b.length
  | k + 1 => apartN a b k ||| (a.getD k 0 ^^^ b.getD k 0).toNat
theorem nat_xor_zero (x y : Nat) : x ^^^ y = 0 ↔ x = y := by
  constructor
  · intro h
    have e : x ^^^ y ^^^ y = y := by rw [h, Nat.zero_xor]
    rwa [Nat.xor_assoc, Nat.xor_self, Nat.xor_zero] at e
  · rintro rfl
    exact Nat.xor_self _
theorem apartN_zero (a b : List UInt8) : ∀ k, apartN a b k = 0 ↔ a.length = b.length ∧ ∀ i, i < k → a.getD i 0 = b.getD i 0
  | 0 => by
    unfold apartN
    rw [nat_xor_zero]
    exact ⟨fun h => ⟨h, fun i hi => absurd hi (Nat.not_lt_zero _)⟩, fun h => h.1⟩
  | k + 1 => by
    unfold apartN
    rw [Nat.or_eq_zero_iff, apartN_zero a b k]
    have e : (a.getD k 0 ^^^ b.getD k 0).toNat = 0 ↔ a.getD k 0 = b.getD k 0 := by
      rw [UInt8.toNat_xor, nat_xor_zero]
      exact UInt8.toNat_inj
    rw [e]
    constructor
    · rintro ⟨⟨h1, h2⟩, h3⟩
      refine ⟨h1, fun i hi => ?_⟩
      rcases Nat.lt_or_ge i k with h | h
      · exact h2 i h
      · obtain rfl : i = k := by omega
        exact h3
    · rintro ⟨h1, h2⟩
      exact ⟨⟨h1, fun i hi => h2 i (by omega)⟩, h2 k (by omega)⟩
theorem apartN_same (a b : List UInt8) : apartN a b (min a.length b.length) = 0 ↔ a = b := by
  rw [apartN_zero]
  constructor
  · rintro ⟨h1, h2⟩
    apply List.ext_getElem h1
    intro i hi1 hi2
    have := h2 i (by omega)
    simpa [List.getD, hi1, hi2] using this
  · rintro rfl
    exact ⟨rfl, fun _ _ => rfl⟩
theorem apartN_lt (a b : List UInt8) (ha : a.length < 9223372036854775808) (hb : b.length < 9223372036854775808) : ∀ k, apartN a b k < 9223372036854775808
  | 0 => Nat.xor_lt_two_pow (n := 63) ha hb
  | k + 1 => by
    have h := (a.getD k 0 ^^^ b.getD k 0).toNat_lt
    exact Nat.or_lt_two_pow (n := 63) (apartN_lt a b ha hb k) (Nat.lt_trans h (by decide))
theorem xor_i64 (a b : Nat) (ha : a < 9223372036854775808) (hb : b < 9223372036854775808) : bits .xor .i64 (a : Int) (b : Int) = ((a ^^^ b : Nat) : Int) := by
  have h1 : (BitVec.ofInt 64 (a : Int)).toNat = a := by rw [BitVec.toNat_ofInt]; omega
  have h2 : (BitVec.ofInt 64 (b : Int)).toNat = b := by rw [BitVec.toNat_ofInt]; omega
  have hl : a ^^^ b < 9223372036854775808 := Nat.xor_lt_two_pow (n := 63) ha hb
  show IntKind.i64.wrap ((BitVec.ofInt 64 (a : Int) ^^^ BitVec.ofInt 64 (b : Int)).toNat : Nat) = _
  rw [BitVec.toNat_xor, h1, h2, IntKind.wrap_i64]
  omega

set_option maxRecDepth 100000 in
set_option maxHeartbeats 4000000 in
theorem MacSame_num (av bv : Value) (a b : List UInt8) (w : World) (ha : Row1 w av (a.map bval)) (hb : Row1 w bv (b.map bval)) :
    Calls Try.prog 31 #[av, bv] w fun e w' => e = .returned (.bool (decide (a = b))) ∧ Below w.heap.size w w' := by
  have HA := Lib.hid ha
  have HB := Lib.hid hb
  obtain ⟨a1, c1, rfl, p1, p2, p3, p4⟩ := id ha
  obtain ⟨a2, c2, rfl, q1, q2, q3, q4⟩ := id hb
  rw [List.length_map] at p1 q1 HA HB ⊢
  rw [List.length_map]
  unfold maxLen at p2 q2
  have hla : a.length < 9223372036854775808 := by omega
  have hlb : b.length < 9223372036854775808 := by omega
  have hx0 := xor_i64 a.length b.length hla hlb
  have HLT := Lib.hid (apartN_lt a b hla hlb)
  have HSAME := Lib.hid (apartN_same a b)
  have HCA := Lib.hid p4
  have HCB := Lib.hid q4
  have HLA := Lib.hid hla
  clear ha hb HA HB p1 p2 p3 p4 q1 q2 q3 q4 hla hlb
  go_enter Try.func31, Try.ntmps31
  go_upto_region 3 with (fail)
  all_goals
    have HMIN : Hid (∃ m : Nat, m = min a.length b.length ∧ m ≤ a.length ∧ m ≤ b.length) := Lib.hid ⟨_, rfl, Nat.min_le_left _ _, Nat.min_le_right _ _⟩
    obtain ⟨m, hm, m1, m2⟩ := HMIN.out
    have HMB : Hid (m = a.length ∧ a.length ≤ b.length ∨ m = b.length ∧ b.length ≤ a.length) := Lib.hid (by omega)
    rw [← hm] at HSAME
    have HM := Lib.hid hm
    clear hm hx0 HMIN
    go_loopw [5, 17] (fun ap iv wr => ∃ (j : Nat), j ≤ m ∧ ap = .int .i64 (apartN a b j : Int) ∧ iv = .int .i64 (j : Int) ∧ Ext w wr) (fun _ iv _ => m - (intOf iv).toNat)
    case atStart => exact ⟨0, by omega, rfl, rfl, Ext.refl w⟩
    case round =>
      obtain ⟨j, hj, rfl, rfl, hE⟩ := hrel
      have HE := Lib.hid hE
      clear hE
      have k0 : (0 : Int) ≤ (j : Int) := Int.natCast_nonneg _
      by_cases hlj : j < m
      · have ka : (j : Int) < (a.length : Int) := by omega
        have kb : (j : Int) < (b.length : Int) := by omega
        have hja : j < a.length := by omega
        have j63 : (j : Int) + 1 ≤ 9223372036854775807 := by have := HLA.out; omega
        have hjb : j < b.length := by omega
        obtain ⟨g1, o1, rfl, s1, t1⟩ := HCA.out (by intro e; have h := congrArg List.length e; rw [List.length_map] at h; simp only [List.length_nil] at h; omega)
        obtain ⟨g2, o2, rfl, s2, t2⟩ := HCB.out (by intro e; have h := congrArg List.length e; rw [List.length_map] at h; simp only [List.length_nil] at h; omega)
        have c1 : wr.cell? ⟨g1, o1 + j, none⟩ = some (.int .u8 ((a.getD j 0).toNat : Int)) := by
          have h := t1 j (by rw [List.length_map]; exact hja)
          rw [bval_get hja] at h
          rw [← h]
          exact HE.out.cell (p := ⟨g1, o1 + j, none⟩) s1
        have c2 : wr.cell? ⟨g2, o2 + j, none⟩ = some (.int .u8 ((b.getD j 0).toNat : Int)) := by
          have h := t2 j (by rw [List.length_map]; exact hjb)
          rw [bval_get hjb] at h
          rw [← h]
          exact HE.out.cell (p := ⟨g2, o2 + j, none⟩) s2
        have x1 := xor_u8 (a.getD j 0) (b.getD j 0)
        have hy := (a.getD j 0 ^^^ b.getD j 0).toNat_lt
        have x2 := or_i64 (apartN a b j) (a.getD j 0 ^^^ b.getD j 0).toNat (HLT.out j) (Nat.lt_trans hy (by decide))
        have e2 : (apartN a b j ||| (a.getD j 0 ^^^ b.getD j 0).toNat) = apartN a b (j + 1) := rfl
        rw [e2] at x2
        have w1 : IntKind.i64.wrap (((a.getD j 0 ^^^ b.getD j 0).toNat : Nat) : Int) = ((a.getD j 0 ^^^ b.getD j 0).toNat : Int) := by rw [IntKind.wrap_i64]; omega
        have S1 := Lib.hid s1
        have S2 := Lib.hid s2
        clear e2 s1 s2 t1 t2 HSAME HLT HMB HCA HCB
        generalize (a.getD j 0 ^^^ b.getD j 0).toNat = y at *
        generalize (a.getD j 0).toNat = y1 at *
        generalize (b.getD j 0).toNat = y2 at *
        generalize hz : apartN a b (j + 1) = z at *
        generalize apartN a b j = z0 at *
        have HZ := Lib.hid hz
        clear hz
        go_wp2_with fail
        go_region
        go_wp2_with fail
        go_roundw
        case rel => exact ⟨j + 1, by omega, by rw [HZ.out], by go_num, HE.out.trans (Ext.drew _)⟩
        case measure => simp [intOf]; omega
      · obtain rfl : j = m := by omega
        have hge : ¬ (j : Int) < (a.length : Int) ∨ ¬ (j : Int) < (b.length : Int) := by rcases HMB.out with h | h <;> omega
        rcases Nat.eq_zero_or_pos (apartN a b j) with hz | hz
        · have e : decide (a = b) = true := decide_eq_true (HSAME.out.1 hz)
          have t0 : ((apartN a b j : Nat) : Int) = 0 := by omega
          have HD := Lib.hid e
          clear e HSAME
          generalize apartN a b j = z at *
          subst hz
          go_wp2_with fail
          go_ret
          exact ⟨by rw [HD.out]; rfl, HE.out⟩
        · have e : decide (a = b) = false := decide_eq_false (fun h => by have := HSAME.out.2 h; omega)
          have t0 : (((apartN a b j : Nat) : Int) == 0) = false := by simp; omega
          have HD := Lib.hid e
          clear e HSAME
          generalize apartN a b j = z at *
          go_wp2_with fail
          go_ret
          exact ⟨by rw [HD.out]; rfl, HE.out⟩
theorem MacSame_val (av bv : Value) (a b : List UInt8) (r : Bool) (w : World) (ha : Row1 w av (a.map bval)) (hb : Row1 w bv (b.map bval)) (hr : decide (a = b) = r) :
    Calls Try.prog 31 #[av, bv] w fun e w' => e = .returned (.bool r) ∧ Below w.heap.size w w' := by
  subst hr
  exact MacSame_num av bv a b w ha hb

end Go.Proofs.Ytjnnhkodkbhbbaa

/- Worlds in which nothing of before has changed but, it may be, one block. Nothing here speaks of a program. Each theorem names its own conditions. -/
namespace Go.Proofs.Ytjnnhkodkbhbbaa
open Go.RowKit

def Far (c : Nat) (w w' : World) : Prop := ∃ wx, Ext w wx ∧ (w' = wx ∨ wx.grownBy w' (some c))
theorem fars_ext {c : Nat} {w w' : World} (h : Ext w w') : Far c w w' := ⟨w', h, Or.inl rfl⟩
theorem fars_put {c : Nat} {w wx w' : World} (h : Ext w wx) (g : wx.grownBy w' (some c)) : Far c w w' := ⟨wx, h, Or.inr g⟩
theorem fars_range {c a : Nat} {w w' : World} {cs : List Value} {t : TypeId} (H : Blk w a cs t) (ha : c ≠ a) (h : Far c w w') : w'.rangeAt a 0 cs := by
  obtain ⟨wx, h1, h2⟩ := h
  rcases h2 with h2 | h2
  · rw [h2]
    exact bl_range H h1
  · exact ((ext_blk H h1).grown h2 (by simp; omega)).range

end Go.Proofs.Ytjnnhkodkbhbbaa

/- The walks of the library's slices.Grow (of no slice) and slices.Concat, for bytes. Each theorem names its own conditions. -/
namespace Go.Proofs.Ytjnnhkodkbhbbaa
open Go.RowKit
set_option linter.unusedVariables false
set_option linter.unusedSimpArgs false

set_option maxRecDepth 100000 in
set_option maxHeartbeats 4000000 in
theorem stdGrow_nil (n : Nat) (w : World) (hn : n ≤ 1099511627776) :
    Calls Try.prog 48 #[.slice none 0 0, .int .i64 (n : Int)] w fun e w' => ∃ x, e = .returned x ∧ w'.ownsRow w.heap.size 5 1 x 0 [] ∧ Below w.heap.size w w' := by
  obtain ⟨i0, hi, hz0, hz1, hz2⟩ := info_parts Try.info5
  have h0 : (0 : Int) ≤ (n : Int) := Int.natCast_nonneg _
  have HNB := Lib.hid hn
  go_enter Try.func48, Try.ntmps48
  rcases Nat.eq_zero_or_pos n with rfl | hp
  · clear hi hz0 hz1 hz2
    go_wp2_with fail
    go_ret
    exact ⟨_, rfl, World.ownsRow_nil _ _ _ _, Below.refl _ _⟩
  · have hp' : (0 : Int) < (n : Int) := by omega
    have HR := Lib.hid (Lib.run_append_nil_zeros (P := Try.prog) w 22 3 0 5 i0 (.int .u8 0) .i64 .i64 Try.underlying22 rfl hi hz0 n hp (by rw [hz1]; decide) (by omega) (by rw [hz2]; omega))
    have HG : Hid (grownCap w n 0 5 ≤ maxLen) := Lib.hid (grownCap_le_maxLen w n 0 _ (by unfold maxLen; omega))
    have HG2 : Hid (n ≤ grownCap w n 0 5) := Lib.hid (grownCap_ge w n 0 _)
    have HSZ : Hid ((Builtin.zeroCells (Value.cells (.int .u8 0)) n ++ Builtin.zeroCells (Value.cells (.int .u8 0)) (grownCap w n 0 5 - n)).size = grownCap w n 0 5) := Lib.hid (by
      rw [Array.size_append, size_zeroCells, size_zeroCells]
      have := HG2.out
      simp [Value.cells]
      omega)
    clear hi hz0 hz1 hz2
    generalize Builtin.zeroCells (Value.cells (.int .u8 0)) n ++ Builtin.zeroCells (Value.cells (.int .u8 0)) (grownCap w n 0 5 - n) = cur at *
    generalize grownCap w n 0 5 = cap at *
    have hc0 : (0 : Int) ≤ (cap : Int) := Int.natCast_nonneg _
    go_wp2_with (at_builtin; refine Lib.wpList_append_run _ rfl _ _ _ _ rfl _ _ rfl rfl _ _ HR.out ?_)
    go_ret
    exact ⟨_, rfl, grown_own w.drew _ n cap _ cur (Nat.le_refl _) HG.out HSZ.out, below_drewN (Ext.alloc w _) 1⟩
set_option maxRecDepth 100000 in
set_option maxHeartbeats 4000000 in
theorem stdConcat_any (v : Value) (ls : List (List UInt8)) (w : World) (hv : RowB w v ls) (hb : ls.flatten.length ≤ 1099511627776) :
    Calls Try.prog 36 #[v] w fun e w' => ∃ x, e = .returned x ∧ w'.ownsRow w.heap.size 5 1 x ls.flatten.length (ls.flatten.map bval) ∧ Below w.heap.size w w' := by
  obtain ⟨i0, hi, hz0, hz1, hz2⟩ := info_parts Try.info5
  obtain ⟨vals, hr, hlen, hx⟩ := hv
  obtain ⟨a, cap, rfl, r1, r2, r3, r4⟩ := id hr
  unfold maxLen at r2
  rw [hlen] at r1 ⊢
  have HI0 := Lib.hid hi
  have HZ0 := Lib.hid hz0
  have HZ1 := Lib.hid hz1
  have HZ2 := Lib.hid hz2
  have HX := Lib.hid hx
  have HC := Lib.hid r4
  have HLN := Lib.hid hlen
  have HB := Lib.hid hb
  clear hr hx r3 r4 hb hlen hi hz0 hz1 hz2
  go_enter Try.func36, Try.ntmps36
  go_wp2_with fail
  go_loop [3, 11] (fun sv iv => ∃ (k : Nat), k ≤ ls.length ∧ iv = .int .i64 (k : Int) ∧ sv = .int .i64 ((ls.take k).flatten.length : Int)) (fun _ iv => ls.length - (intOf iv).toNat)
  case atStart => exact ⟨0, by omega, rfl, rfl⟩
  case round =>
    obtain ⟨k, hk, rfl, rfl⟩ := hrel
    have k0 : (0 : Int) ≤ (k : Int) := Int.natCast_nonneg _
    by_cases hlk : k < ls.length
    · have k1 : (k : Int) < (ls.length : Int) := by omega
      obtain ⟨b', off, rfl, hbs, hcell⟩ := HC.out (by intro e; have h := congrArg List.length e; rw [HLN.out] at h; simp only [List.length_nil] at h; omega)
      obtain ⟨xv, hxv⟩ : ∃ x, vals[k]? = some x := ⟨_, List.getElem?_eq_getElem (by rw [HLN.out]; exact hlk)⟩
      obtain ⟨lk, hlk2⟩ : ∃ x, ls[k]? = some x := ⟨_, List.getElem?_eq_getElem hlk⟩
      obtain ⟨ax, cx, hxx, _⟩ := HX.out k xv lk hxv hlk2
      rw [List.length_map] at hxx
      have hft := cat_succ ls k lk hlk2
      have hfl := cat_part ls (k + 1)
      rw [hft, List.length_append] at hfl
      have HFT : Hid ((ls.take (k + 1)).flatten.length = (ls.take k).flatten.length + lk.length) := Lib.hid (by rw [hft, List.length_append])
      have c0 : w.cell? ⟨b', off + k, none⟩ = some xv := by
        have h := hcell k (by rw [HLN.out]; exact hlk)
        rw [hxv] at h
        exact h
      subst hxx
      have hB := HB.out
      generalize (ls.take k).flatten.length = p at *
      have hpl : (p : Int) + (lk.length : Int) ≤ 1099511627776 := by omega
      have hp0 : (0 : Int) ≤ (p : Int) := Int.natCast_nonneg _
      have hl0 : (0 : Int) ≤ (lk.length : Int) := Int.natCast_nonneg _
      have hlk0 : (0 : Int) ≤ (p : Int) + (lk.length : Int) := by omega
      clear hcell hxv hlk2 hft hfl
      go_wp2_with fail
      go_round
      case rel =>
        refine ⟨k + 1, by omega, by go_num, ?_⟩
        rw [HFT.out]
        rfl
      case measure => simp [intOf]; omega
    · have hk2 : (ls.length : Int) ≤ (k : Int) := by omega
      obtain rfl : k = ls.length := by omega
      rw [cat_all]
      obtain ⟨N, hN⟩ : ∃ N, N = ls.flatten.length := ⟨_, rfl⟩
      have HNB : Hid (N ≤ 1099511627776) := Lib.hid (by rw [hN]; exact HB.out)
      rw [← hN]
      have n0 : (0 : Int) ≤ (N : Int) := Int.natCast_nonneg _
      clear hN
      go_wp2_with fail
      refine (stdGrow_nil N w HNB.out).mono ?_
      rintro e w1 ⟨x1, rfl, ho1, hb1⟩
      have HNIL := Lib.hid ho1
      have HE1 : Hid (Ext w w1) := Lib.hid hb1
      clear ho1 hb1
      go_wp2_with fail
      go_loopw [6, 27] (fun x iv wr => ∃ (k : Nat), k ≤ ls.length ∧ iv = .int .i64 (k : Int) ∧ wr.ownsRow w.heap.size 5 1 x (ls.take k).flatten.length ((ls.take k).flatten.map bval) ∧ Ext w wr) (fun _ iv _ => ls.length - (intOf iv).toNat)
      case atStart => exact ⟨0, by omega, rfl, HNIL.out, HE1.out⟩
      case round =>
        clear HNIL HE1
        obtain ⟨k, hk, rfl, ho, hE⟩ := hrel
        have k0 : (0 : Int) ≤ (k : Int) := Int.natCast_nonneg _
        have HO := Lib.hid ho
        have HE := Lib.hid hE
        have HS := Lib.hid hE.size
        clear ho hE
        by_cases hlk : k < ls.length
        · have k1 : (k : Int) < (ls.length : Int) := by omega
          obtain ⟨b', off, rfl, hbs, hcell⟩ := HC.out (by intro e; have h := congrArg List.length e; rw [HLN.out] at h; simp only [List.length_nil] at h; omega)
          obtain ⟨xv, hxv⟩ : ∃ x, vals[k]? = some x := ⟨_, List.getElem?_eq_getElem (by rw [HLN.out]; exact hlk)⟩
          obtain ⟨lk, hlk2⟩ : ∃ x, ls[k]? = some x := ⟨_, List.getElem?_eq_getElem hlk⟩
          have HXR := Lib.hid ((HX.out k xv lk hxv hlk2).below HE.out)
          have hft := cat_succ ls k lk hlk2
          have hfl := cat_part ls (k + 1)
          rw [hft, List.length_append] at hfl
          have HFT := Lib.hid hft
          have c0 : wr.cell? ⟨b', off + k, none⟩ = some xv := by
            have h := hcell k (by rw [HLN.out]; exact hlk)
            rw [hxv] at h
            rw [← h]
            exact HE.out.cell (p := ⟨b', off + k, none⟩) hbs
          have HFL : Hid ((ls.take k).flatten.length + (lk.map bval).length ≤ 1099511627776) := Lib.hid (by rw [List.length_map]; have := HB.out; omega)
          clear hcell hxv hlk2 hft hfl
          go_wp2_with (at_builtin; refine wpList_append_row rfl _ _ 22 rfl w.heap.size 5 i0 (.int .u8 0) 1 Try.underlying22 HI0.out HZ0.out HZ1.out HZ2.out rfl _ _ _ rfl HO.out rfl HXR.out (bval_one _) (by have := HFL.out; unfold maxLen; omega) (by have := HFL.out; omega) HS.out ?_; intro v3 w3 hown3 hgrow3)
          go_roundw
          case rel =>
            refine ⟨k + 1, by omega, by go_num, ?_, ext_own HE.out HO.out (Nat.le_refl _) hgrow3⟩
            rw [HFT.out, List.map_append, List.length_append]
            rw [List.length_map] at hown3
            exact hown3
          case measure => simp [intOf]; omega
        · have hk2 : (ls.length : Int) ≤ (k : Int) := by omega
          obtain rfl : k = ls.length := by omega
          rw [cat_all] at HO
          go_wp2_with fail
          go_ret
          exact ⟨_, rfl, HO.out, HE.out⟩
end Go.Proofs.Ytjnnhkodkbhbbaa

/- The walks of package aead's tagOf, Seal and Open. Laid by wip/gen/gaeacode.py. Each theorem names its own conditions. -/
namespace Go.Proofs.Ytjnnhkodkbhbbaa
open Go.RowKit
set_option linter.unusedVariables false
set_option linter.unusedSimpArgs false

/-- The error's number. -/
def aErr (o : Option (List UInt8)) : Int := if o.isSome then 0 else 10

theorem PSum_valA (kb : List UInt8) (v : Value) (ls : List (List UInt8)) (m : List UInt8) (w : World) (hk : kb.length = 32) (hv : RowB w v ls) (hf : ls.flatten = m) (hm : m.length ≤ 1099511627776) :
    Calls Try.prog 38 #[.agg (kb.map bval).toArray, v] w fun e w' => e = .returned (.agg ((polyTag kb m).map bval).toArray) ∧ Below w.heap.size w w' := by
  subst hf
  exact PSum_num kb v ls w hk hv hm
theorem same_true (av bv : Value) (a b : List UInt8) (w : World) (ha : Row1 w av (a.map bval)) (hb : Row1 w bv (b.map bval)) (h : a = b) :
    Calls Try.prog 31 #[av, bv] w fun e w' => e = .returned (.bool true) ∧ Below w.heap.size w w' := by
  have hh := MacSame_num av bv a b w ha hb
  rw [decide_eq_true h] at hh
  exact hh
theorem same_false (av bv : Value) (a b : List UInt8) (w : World) (ha : Row1 w av (a.map bval)) (hb : Row1 w bv (b.map bval)) (h : ¬ a = b) :
    Calls Try.prog 31 #[av, bv] w fun e w' => e = .returned (.bool false) ∧ Below w.heap.size w w' := by
  have hh := MacSame_num av bv a b w ha hb
  rw [decide_eq_false h] at hh
  exact hh
theorem range_take {w : World} {c : Nat} {cs : List Value} {t : TypeId} (h : Blk w c cs t) (n : Nat) : w.rangeAt c 0 (cs.take n) := fun j v hj => by
  rw [List.getElem?_take] at hj
  split at hj
  · rw [Nat.zero_add, h.cell]
    exact hj
  · cases hj
/-- A slice as an array: where it stands. -/
theorem run_array_at {P : Program} {arr e : TypeId} {n : Nat} (hu : P.underlying arr = some (.array n e)) (a : Option Addr) (len cap : Nat) (h : n ≤ len) (w : World) :
    (Instr.arrayAt arr (.slice a len cap)).run P w = .ok (.pointer a) w := by
  unfold Instr.arrayAt
  simp [run_underlying hu, show ¬ len < n by omega]
/-- Two rows laid behind one another, in a slice that was just made. -/
theorem Concat_two (x y : Value) (l m : List UInt8) (w : World) (hx : Row1 w x (l.map bval)) (hy : Row1 w y (m.map bval)) (hl : (l ++ m).length ≤ 1099511627776) :
    Calls Try.prog 36 #[.slice (some ⟨w.heap.size, 0, none⟩) 2 2] (w.alloc (.cells #[x, y] 22)) fun e w' => ∃ z, e = .returned z ∧ w'.ownsRow w.heap.size 5 1 z (l ++ m).length ((l ++ m).map bval) ∧ Ext w w' := by
  have he := Ext.alloc w (.cells #[x, y] 22)
  have h := stdConcat_any _ [l, m] _ (rowB2 (Row1.made w #[x, y] 22 _ 2 [x, y] rfl rfl rfl (by unfold maxLen; omega)) (hx.below he) (hy.below he)) (by simpa using hl)
  refine h.mono fun e w' hh => ?_
  obtain ⟨z, h1, h2, h3⟩ := hh
  rw [show [l, m].flatten = l ++ m from by simp] at h2
  exact ⟨z, h1, own_mono h2 he.size, he.trans h3⟩

set_option maxRecDepth 100000 in
set_option maxHeartbeats 8000000 in
theorem atagOf_any (kb nb c s : List UInt8) (cv sv : Value) (w : World) (hk : kb.length = 32) (hn : nb.length = 12) (hc : Row1 w cv (c.map bval)) (hs : Row1 w sv (s.map bval)) (hcl : c.length ≤ 1000000000) (hsl : s.length ≤ 1000000000) :
    Calls Try.prog 30 #[.agg (kb.map bval).toArray, .agg (nb.map bval).toArray, cv, sv] w fun e w' => e = .returned (.agg ((aeaTag kb nb c s).map bval).toArray) ∧ Below w.heap.size w w' := by
  obtain ⟨iq, hq0, hq1, hq2⟩ := info_two (P := Try.prog) (t := 22) (z := .slice none 0 0) (n := 1) (by kernel_rfl)
  have HQ0 := Lib.hid hq0
  have HQ1 := Lib.hid hq1
  have HQ2 := Lib.hid hq2
  have HC0 := Lib.hid hc
  have HS0 := Lib.hid hs
  obtain ⟨ac, capc, hcv, c1, c2, _⟩ := id hc
  obtain ⟨ad, caps, hsv, s1, s2, _⟩ := id hs
  rw [List.length_map] at hcv c1 hsv s1
  subst hcv hsv
  unfold maxLen at c2 s2
  have HCL := Lib.hid hcl
  have HSL := Lib.hid hsl
  have HB := Lib.hid (boxes3 w (kb.map bval) (nb.map bval) (ints .u8 (List.replicate 16 0)) 34 44 58)
  have HIK : Hid ((Try.prog.info? 34).map (·.size) = some (kb.map bval).length) := Lib.hid (num_size hk)
  have HIN : Hid ((Try.prog.info? 44).map (·.size) = some (nb.map bval).length) := Lib.hid (nonce_size hn)
  have HKL := Lib.hid hk
  have HNL := Lib.hid hn
  clear hq0 hq1 hq2 hc hs hk hn
  go_enter Try.func30, Try.ntmps30
  go_upto_region 1 with (fail)
  obtain ⟨H1, H2, H3, HE⟩ := HB.out
  change Code.wp _ _ _ _ (((w.alloc (.cells (kb.map bval).toArray 34)).alloc (.cells (nb.map bval).toArray 44)).alloc (.cells (ints .u8 (List.replicate 16 0)).toArray 58))
  generalize ((w.alloc (.cells (kb.map bval).toArray 34)).alloc (.cells (nb.map bval).toArray 44)).alloc (.cells (ints .u8 (List.replicate 16 0)).toArray 58) = wa at *
  obtain ⟨A, hA⟩ : ∃ A, A = w.heap.size := ⟨_, rfl⟩
  have HLA : Hid (w.heap.size ≤ A + 1 + 1) := Lib.hid (by omega)
  rw [← hA] at H1 H2 H3 ⊢
  have H1 := Lib.hid H1
  have H2 := Lib.hid H2
  have H3 := Lib.hid H3
  have HE : Hid (Ext w wa) := Lib.hid HE
  clear hA HB
  go_wp2_with (first | (refine wpList_load_blk rfl _ _ rfl A rfl _ _ _ _ H1.out Try.underlying34 HIK.out ?_) | (refine wpList_load_blk rfl _ _ rfl (A + 1) rfl _ _ _ _ H2.out Try.underlying44 HIN.out ?_))
  refine (CBlock_num kb nb 0 wa HKL.out HNL.out (by decide) (by decide)).mono ?_
  rintro e w1 ⟨rfl, hb⟩
  have H3 := Lib.hid (ext_blk H3.out hb)
  have HE := Lib.hid (HE.out.trans hb)
  clear hb H1 H2
  have HOK : Hid (oneKey kb nb = (chaBlock kb (BitVec.ofInt 32 0) nb).take 32) := Lib.hid rfl
  have HBL := Lib.hid (chaBlock_length kb (BitVec.ofInt 32 0) nb)
  generalize chaBlock kb (BitVec.ofInt 32 0) nb = k at *
  have HZ := Lib.hid (Blk.made w1 (ints .u8 (List.replicate 64 0)) 68)
  have HEA := Lib.hid (Ext.alloc w1 (.cells (ints .u8 (List.replicate 64 0)).toArray 68))
  have HIS : Hid ((Try.prog.info? 68).map (·.size) = some (k.map bval).length) := Lib.hid (sig_size HBL.out)
  have HLo : Hid ((k.map bval).length = (ints .u8 (List.replicate 64 0)).length) := Lib.hid (by rw [List.length_map, HBL.out, ints_length, List.length_replicate])
  go_upto_region 2 with (refine wpList_store_blk rfl _ _ _ rfl w1.heap.size (k.map bval) rfl rfl _ _ HZ.out HLo.out HIS.out (bval_one _) ?_; intro w2 hb2 hg2)
  have HE4 := Lib.hid (ext_grown HEA.out hg2 (Nat.le_refl _))
  have H3 := Lib.hid (ext_blk H3.out HE4.out)
  have HE := Lib.hid (HE.out.trans HE4.out)
  obtain ⟨S, hS⟩ : ∃ S, S = w1.heap.size := ⟨_, rfl⟩
  rw [← hS] at hb2 ⊢
  have H4 := Lib.hid (range_take hb2 32)
  clear hb2 hg2 HZ HEA HE4 HLo hS
  rw [← List.map_take, ← HOK.out] at H4
  have HOL : Hid ((oneKey kb nb).length = 32) := Lib.hid (oneKey_length kb nb)
  have HIO : Hid ((Try.prog.info? 34).map (·.size) = some ((oneKey kb nb).map bval).length) := Lib.hid (num_size HOL.out)
  have HTG : Hid (aeaTag kb nb c s = polyTag (oneKey kb nb) (aeaMsg c s)) := Lib.hid rfl
  clear HOK
  generalize oneKey kb nb = ok at *
  have HZ := Lib.hid (Blk.made w2 zero32 34)
  have HEA := Lib.hid (Ext.alloc w2 (.cells zero32.toArray 34))
  have HLo : Hid ((ok.map bval).length = zero32.length) := Lib.hid (by rw [List.length_map, HOL.out]; rfl)
  have hat := run_array_at (P := Try.prog) Try.underlying34 (some ⟨S, 0, none⟩) 32 64 (Nat.le_refl _) w2
  have H3L := Lib.hid H3.out.lt
  go_upto_region 3 with (first | (refine wpList_load_mid rfl _ _ rfl S 0 rfl _ _ H4.out Try.underlying34 rfl HIO.out ?_) | (refine wpList_store_blk rfl _ _ _ rfl w2.heap.size (ok.map bval) rfl rfl _ _ HZ.out HLo.out HIO.out (bval_one _) ?_; intro w3 hb3 hg3))
  have HE4 := Lib.hid (ext_grown HEA.out hg3 (Nat.le_refl _))
  have H3 := Lib.hid (ext_blk H3.out HE4.out)
  have HE := Lib.hid (HE.out.trans HE4.out)
  obtain ⟨O, hO⟩ : ∃ O, O = w2.heap.size := ⟨_, rfl⟩
  have hOS : A + 1 + 1 < O := by rw [hO]; exact H3L.out
  rw [← hO] at hb3 ⊢
  have H5 := Lib.hid hb3
  clear hb3 hg3 HZ HEA HE4 HLo hO H4 hat
  have HO : Hid (A + 1 + 1 < O) := Lib.hid (by have := hOS; omega)
  clear hOS
  have HS3 := Lib.hid (HS0.out.below HE.out)
  have HC3 := Lib.hid (HC0.out.below HE.out)
  obtain ⟨m, hm⟩ : ∃ m, m = aeaMsg c s := ⟨_, rfl⟩
  have HFL : Hid ([s, z16 s.length, c, z16 c.length, bytesN 8 s.length, bytesN 8 c.length].flatten = m) := Lib.hid (by rw [hm]; unfold aeaMsg; simp [List.append_assoc])
  have HML : Hid (m.length ≤ 1099511627776) := Lib.hid (by rw [hm]; have := aeaMsg_length c s; have := HCL.out; have := HSL.out; omega)
  rw [← hm] at HTG
  clear hm
  have B0 : Ext w3 w3.drew := Ext.drew _
  refine wp_region_held_drew (S := fun w' => Far (A + 1 + 1) w3 w') (by kernel_rfl) (fars_ext B0) (fun hHeld => ?_)
  refine wpAnyH_take (i := 0) (v := .agg ((ok).map bval).toArray) rfl (by kernel_rfl) (by kernel_rfl) (by kernel_rfl) (fun _ _ _ h => h) (yieldsIf_load_mid (by rfl) _ _ rfl O 0 rfl _ _ (fun w h => fars_range H5.out (by have := HO.out; omega) h) Try.underlying34 rfl HIO.out) hHeld ?_
  simp only [Act.put, List.getElem_toArray, List.getElem_cons_zero, List.getElem_cons_succ, List.setIfInBounds_toArray, List.set_cons_zero, List.set_cons_succ]
  refine wpAnyH_take (i := 1) (v := .slice ad s.length caps) rfl (by kernel_rfl) (by kernel_rfl) (by kernel_rfl) (fun _ _ _ h => h) (yi_move _ (.slice ad s.length caps) (by rfl) rfl rfl) hHeld ?_
  simp only [Act.put, List.getElem_toArray, List.getElem_cons_zero, List.getElem_cons_succ, List.setIfInBounds_toArray, List.set_cons_zero, List.set_cons_succ]
  refine wpAnyH_take (i := 2) (v := .slice ad s.length caps) rfl (by kernel_rfl) (by kernel_rfl) (by kernel_rfl) (fun _ _ _ h => h) (yi_move _ (.slice ad s.length caps) (by rfl) rfl rfl) hHeld ?_
  simp only [Act.put, List.getElem_toArray, List.getElem_cons_zero, List.getElem_cons_succ, List.setIfInBounds_toArray, List.set_cons_zero, List.set_cons_succ]
  refine wpAnyH_take (i := 4) (v := .slice ac c.length capc) rfl (by kernel_rfl) (by kernel_rfl) (by kernel_rfl) (fun _ _ _ h => h) (yi_move _ (.slice ac c.length capc) (by rfl) rfl rfl) hHeld ?_
  simp only [Act.put, List.getElem_toArray, List.getElem_cons_zero, List.getElem_cons_succ, List.setIfInBounds_toArray, List.set_cons_zero, List.set_cons_succ]
  refine wpAnyH_take (i := 5) (v := .slice ac c.length capc) rfl (by kernel_rfl) (by kernel_rfl) (by kernel_rfl) (fun _ _ _ h => h) (yi_move _ (.slice ac c.length capc) (by rfl) rfl rfl) hHeld ?_
  simp only [Act.put, List.getElem_toArray, List.getElem_cons_zero, List.getElem_cons_succ, List.setIfInBounds_toArray, List.set_cons_zero, List.set_cons_succ]
  refine wpAnyH_take (i := 7) (v := .slice ad s.length caps) rfl (by kernel_rfl) (by kernel_rfl) (by kernel_rfl) (fun _ _ _ h => h) (yi_move _ (.slice ad s.length caps) (by rfl) rfl rfl) hHeld ?_
  simp only [Act.put, List.getElem_toArray, List.getElem_cons_zero, List.getElem_cons_succ, List.setIfInBounds_toArray, List.set_cons_zero, List.set_cons_succ]
  refine wpAnyH_take (i := 9) (v := .slice ac c.length capc) rfl (by kernel_rfl) (by kernel_rfl) (by kernel_rfl) (fun _ _ _ h => h) (yi_move _ (.slice ac c.length capc) (by rfl) rfl rfl) hHeld ?_
  simp only [Act.put, List.getElem_toArray, List.getElem_cons_zero, List.getElem_cons_succ, List.setIfInBounds_toArray, List.set_cons_zero, List.set_cons_succ]
  refine wpAnyH_ready (rs := [3]) (by kernel_rfl) (by simp) (AllReadyH.cons rfl (fun K hK => ?_) AllReadyH.nil)
  go_simp
  refine (afilling_any _ s w3.drew ((HS3.out).below B0)).mono ?_
  rintro e m1 ⟨x1, rfl, o1, b1⟩
  have r1 : Row1 m1 x1 ((z16 s.length).map bval) := Row1.of_own o1
  obtain ⟨a1, c1, hx1, _⟩ := id r1
  rw [show ((z16 s.length).map bval).length = (z16 s.length).length from by rw [List.length_map]] at hx1
  subst hx1
  have N1 : Ext w3 m1 := B0.trans b1
  refine hK.out _ _ (fars_ext N1) (fun hHeld => ?_)
  clear hK K
  try simp only [Act.put, List.getElem_toArray, List.getElem_cons_zero, List.getElem_cons_succ, List.setIfInBounds_toArray, List.set_cons_zero, List.set_cons_succ]
  refine wpAnyH_ready (rs := [6]) (by kernel_rfl) (by simp) (AllReadyH.cons rfl (fun K hK => ?_) AllReadyH.nil)
  go_simp
  refine (afilling_any _ c m1 ((HC3.out).below N1)).mono ?_
  rintro e m2 ⟨x2, rfl, o2, b2⟩
  have r1 := r1.below b2
  have r2 : Row1 m2 x2 ((z16 c.length).map bval) := Row1.of_own o2
  obtain ⟨a2, c2, hx2, _⟩ := id r2
  rw [show ((z16 c.length).map bval).length = (z16 c.length).length from by rw [List.length_map]] at hx2
  subst hx2
  have N2 : Ext w3 m2 := N1.trans b2
  refine hK.out _ _ (fars_ext N2) (fun hHeld => ?_)
  clear hK K
  try simp only [Act.put, List.getElem_toArray, List.getElem_cons_zero, List.getElem_cons_succ, List.setIfInBounds_toArray, List.set_cons_zero, List.set_cons_succ]
  refine wpAnyH_ready (rs := [8]) (by kernel_rfl) (by simp) (AllReadyH.cons rfl (fun K hK => ?_) AllReadyH.nil)
  go_simp
  refine (alength_any _ s m2 ((HS3.out).below N2)).mono ?_
  rintro e m3 ⟨x3, rfl, o3, b3⟩
  have r1 := r1.below b3
  have r2 := r2.below b3
  have r3 : Row1 m3 x3 ((bytesN 8 s.length).map bval) := Row1.of_own o3
  obtain ⟨a3, c3, hx3, _⟩ := id r3
  rw [show ((bytesN 8 s.length).map bval).length = 8 from by rw [List.length_map, bytesN_length]] at hx3
  subst hx3
  have N3 : Ext w3 m3 := N2.trans b3
  refine hK.out _ _ (fars_ext N3) (fun hHeld => ?_)
  clear hK K
  try simp only [Act.put, List.getElem_toArray, List.getElem_cons_zero, List.getElem_cons_succ, List.setIfInBounds_toArray, List.set_cons_zero, List.set_cons_succ]
  refine wpAnyH_ready (rs := [10]) (by kernel_rfl) (by simp) (AllReadyH.cons rfl (fun K hK => ?_) AllReadyH.nil)
  go_simp
  refine (alength_any _ c m3 ((HC3.out).below N3)).mono ?_
  rintro e m4 ⟨x4, rfl, o4, b4⟩
  have r1 := r1.below b4
  have r2 := r2.below b4
  have r3 := r3.below b4
  have r4 : Row1 m4 x4 ((bytesN 8 c.length).map bval) := Row1.of_own o4
  obtain ⟨a4, c4, hx4, _⟩ := id r4
  rw [show ((bytesN 8 c.length).map bval).length = 8 from by rw [List.length_map, bytesN_length]] at hx4
  subst hx4
  have N4 : Ext w3 m4 := N3.trans b4
  refine hK.out _ _ (fars_ext N4) (fun hHeld => ?_)
  clear hK K
  try simp only [Act.put, List.getElem_toArray, List.getElem_cons_zero, List.getElem_cons_succ, List.setIfInBounds_toArray, List.set_cons_zero, List.set_cons_succ]
  refine wpAnyH_ready (rs := [11]) (by kernel_rfl) (by simp) (AllReadyH.cons rfl (fun K hK => ?_) AllReadyH.nil)
  refine step_wp (by rfl) ?_
  refine wp_buildSlice_d (some 28) _ _ _ _ rfl rfl #[.slice ad s.length caps, .slice a1 ((z16 s.length).length) c1, .slice ac c.length capc, .slice a2 ((z16 c.length).length) c2, .slice a3 (8) c3, .slice a4 (8) c4] iq (.slice none 0 0) Try.underlying24 HQ0.out HQ1.out (by rw [HQ2.out]; decide) (by rw [HQ2.out]; decide) (by rw [HQ2.out]; kernel_rfl) ?_
  obtain ⟨m5, hm5⟩ : ∃ wNew, wNew = World.alloc m4 (.cells #[.slice ad s.length caps, .slice a1 ((z16 s.length).length) c1, .slice ac c.length capc, .slice a2 ((z16 c.length).length) c2, .slice a3 (8) c3, .slice a4 (8) c4] 22) := ⟨_, rfl⟩
  rw [← hm5]
  have b5 : Ext m4 m5 := by rw [hm5]; exact Ext.alloc _ _
  obtain ⟨g5, hg5⟩ : ∃ gNew, gNew = (m4).heap.size := ⟨_, rfl⟩
  rw [← hg5]
  have r1 := r1.below b5
  have r2 := r2.below b5
  have r3 := r3.below b5
  have r4 := r4.below b5
  have r5 : Row1 m5 (.slice (some ⟨g5, 0, none⟩) 6 6) [.slice ad s.length caps, .slice a1 ((z16 s.length).length) c1, .slice ac c.length capc, .slice a2 ((z16 c.length).length) c2, .slice a3 (8) c3, .slice a4 (8) c4] := by rw [hm5, hg5]; exact Row1.made _ _ _ _ _ _ rfl rfl rfl (by unfold maxLen; omega)
  clear hm5 hg5
  have N5 : Ext w3 m5 := N4.trans b5
  refine hK.out _ _ (fars_ext N5) (fun hHeld => ?_)
  clear hK K
  try simp only [Act.put, List.getElem_toArray, List.getElem_cons_zero, List.getElem_cons_succ, List.setIfInBounds_toArray, List.set_cons_zero, List.set_cons_succ]
  refine wpAnyH_ready (rs := [12]) (by kernel_rfl) (by simp) (AllReadyH.cons rfl (fun K hK => ?_) AllReadyH.nil)
  go_simp
  refine (PSum_valA ok (.slice (some ⟨g5, 0, none⟩) 6 6) _ m _ HOL.out (rowB6 r5 ((HS3.out).below N5) r1 ((HC3.out).below N5) r2 r3 r4) HFL.out HML.out).mono ?_
  rintro e m6 ⟨rfl, b6⟩
  have r1 := r1.below b6
  have r2 := r2.below b6
  have r3 := r3.below b6
  have r4 := r4.below b6
  have r5 := r5.below b6
  have N6 : Ext w3 m6 := N5.trans b6
  refine hK.out _ _ (fars_ext N6) (fun hHeld => ?_)
  clear hK K
  try simp only [Act.put, List.getElem_toArray, List.getElem_cons_zero, List.getElem_cons_succ, List.setIfInBounds_toArray, List.set_cons_zero, List.set_cons_succ]
  refine wpAnyH_ready (rs := [13]) (by kernel_rfl) (by simp) (AllReadyH.cons rfl (fun K hK => ?_) AllReadyH.nil)
  refine step_wp (by rfl) ?_
  refine wp_store_blk _ _ _ rfl (A + 1 + 1) ((polyTag ok m).map bval) rfl rfl _ _ (ext_blk H3.out N6) (by rw [List.length_map, polyTag_length, ints_length]; rfl) (tag_size (polyTag_length _ _)) (bval_one _) ?_
  intro m7 hb7 hg7
  refine hK.out _ _ (fars_put N6 hg7) (fun hHeld => ?_)
  clear hK K
  try simp only [Act.put, List.getElem_toArray, List.getElem_cons_zero, List.getElem_cons_succ, List.setIfInBounds_toArray, List.set_cons_zero, List.set_cons_succ]
  refine wpAnyH_done (by kernel_rfl) ?_ _
  have hfin := hb7
  have hNN := ext_grown (HE.out.trans N6) hg7 HLA.out
  generalize m7 = w11 at hfin hNN ⊢
  have HIo : Hid ((Try.prog.info? 58).map (·.size) = some ((polyTag ok m).map bval).length) := Lib.hid (tag_size (polyTag_length _ _))
  go_wp2_with fail
  refine bodyPost_ret (result_blk rfl _ (A + 1 + 1) _ _ _ _ rfl hfin Try.underlying58 HIo.out) rfl ?_
  exact ⟨by rw [HTG.out], hNN⟩

set_option maxRecDepth 100000 in
set_option maxHeartbeats 4000000 in
theorem ASeal_num (kb nb p s : List UInt8) (pv sv : Value) (w : World) (hk : kb.length = 32) (hn : nb.length = 12) (hp : Row1 w pv (p.map bval)) (hs : Row1 w sv (s.map bval)) (hpl : p.length ≤ 1000000000) (hsl : s.length ≤ 1000000000) :
    Calls Try.prog 27 #[.agg (kb.map bval).toArray, .agg (nb.map bval).toArray, pv, sv] w fun e w' => ∃ x, e = .returned x ∧ w'.ownsRow w.heap.size 5 1 x (p.length + 16) ((sealB kb nb p s).map bval) ∧ Below w.heap.size w w' := by
  have HP0 := Lib.hid hp
  have HS0 := Lib.hid hs
  have HPL := Lib.hid hpl
  have HSL := Lib.hid hsl
  have HB := Lib.hid (boxes2 w (kb.map bval) (nb.map bval) 34 44)
  have HIK : Hid ((Try.prog.info? 34).map (·.size) = some (kb.map bval).length) := Lib.hid (num_size hk)
  have HIN : Hid ((Try.prog.info? 44).map (·.size) = some (nb.map bval).length) := Lib.hid (nonce_size hn)
  have HKL := Lib.hid hk
  have HNL := Lib.hid hn
  clear hp hs hk hn hpl hsl
  go_enter Try.func27, Try.ntmps27
  go_upto_region 1 with (fail)
  obtain ⟨H1, H2, HE⟩ := HB.out
  change Code.wp _ _ _ _ ((w.alloc (.cells (kb.map bval).toArray 34)).alloc (.cells (nb.map bval).toArray 44))
  generalize (w.alloc (.cells (kb.map bval).toArray 34)).alloc (.cells (nb.map bval).toArray 44) = wa at *
  obtain ⟨A, hA⟩ : ∃ A, A = w.heap.size := ⟨_, rfl⟩
  rw [← hA] at H1 H2 ⊢
  have H1 := Lib.hid H1
  have H2 := Lib.hid H2
  have HE : Hid (Ext w wa) := Lib.hid HE
  have HA := Lib.hid hA
  clear hA HB
  go_wp2_with (first | (refine wpList_load_blk rfl _ _ rfl A rfl _ _ _ _ H1.out Try.underlying34 HIK.out ?_) | (refine wpList_load_blk rfl _ _ rfl (A + 1) rfl _ _ _ _ H2.out Try.underlying44 HIN.out ?_))
  refine (aturned_any kb nb p _ wa HKL.out HNL.out (HP0.out.below HE.out) (by have := HPL.out; omega)).mono ?_
  rintro e w1 ⟨x1, rfl, ho1, hb1⟩
  have HO1 : Hid (w1.ownsRow w.heap.size 5 1 x1 p.length ((chaTurn kb 1 nb p).map bval)) := Lib.hid (own_mono ho1 HE.out.size)
  have H1 := Lib.hid (ext_blk H1.out hb1)
  have H2 := Lib.hid (ext_blk H2.out hb1)
  have HE := Lib.hid (HE.out.trans hb1)
  clear ho1 hb1
  have HCL := Lib.hid (chaTurn_length kb 1 nb p)
  have HSB : Hid (sealB kb nb p s = chaTurn kb 1 nb p ++ aeaTag kb nb (chaTurn kb 1 nb p) s) := Lib.hid rfl
  generalize chaTurn kb 1 nb p = c at *
  go_wp2_with (first | (refine wpList_load_blk rfl _ _ rfl A rfl _ _ _ _ H1.out Try.underlying34 HIK.out ?_) | (refine wpList_load_blk rfl _ _ rfl (A + 1) rfl _ _ _ _ H2.out Try.underlying44 HIN.out ?_))
  refine (atagOf_any kb nb c s _ _ w1 HKL.out HNL.out (Row1.of_own HO1.out) (HS0.out.below HE.out) (by rw [HCL.out]; exact HPL.out) HSL.out).mono ?_
  rintro e w2 ⟨rfl, hb⟩
  have HE := Lib.hid (HE.out.trans hb)
  have HO2 := Lib.hid (own_below HO1.out hb)
  clear hb HO1 H1 H2
  have HTL := Lib.hid (aeaTag_length kb nb c s)
  generalize aeaTag kb nb c s = tg at *
  have HZ := Lib.hid (Blk.made w2 (ints .u8 (List.replicate 16 0)) 58)
  have HEA := Lib.hid (Ext.alloc w2 (.cells (ints .u8 (List.replicate 16 0)).toArray 58))
  have HIT : Hid ((Try.prog.info? 58).map (·.size) = some (tg.map bval).length) := Lib.hid (tag_size HTL.out)
  have HLo : Hid ((tg.map bval).length = (ints .u8 (List.replicate 16 0)).length) := Lib.hid (by rw [List.length_map, HTL.out, ints_length, List.length_replicate])
  go_upto_region 3 with (refine wpList_store_blk rfl _ _ _ rfl w2.heap.size (tg.map bval) rfl rfl _ _ HZ.out HLo.out HIT.out (bval_one _) ?_; intro w3 hb3 hg3)
  have HE4 := Lib.hid (ext_grown HEA.out hg3 (Nat.le_refl _))
  have HO3 := Lib.hid (own_below HO2.out HE4.out)
  have HE := Lib.hid (HE.out.trans HE4.out)
  obtain ⟨T, hT⟩ : ∃ T, T = w2.heap.size := ⟨_, rfl⟩
  rw [← hT] at hb3 ⊢
  have HTR := Lib.hid (blk_row (n := 16) hb3 (by rw [List.length_map, HTL.out]) (by unfold maxLen; omega))
  clear hb3 hg3 HZ HEA HE4 HLo hT HO2
  have HR1 := Lib.hid (Row1.of_own HO3.out)
  obtain ⟨a1, c1, hx1, _⟩ := id HR1.out
  rw [List.length_map, HCL.out] at hx1
  subst hx1
  have HF : Hid ((c ++ tg).length = p.length + 16) := Lib.hid (by rw [List.length_append, HTL.out, HCL.out])
  clear HO3
  go_wp2_with fail
  refine (Concat_two _ _ c tg w3 HR1.out HTR.out (by rw [HF.out]; have := HPL.out; omega)).mono ?_
  rintro e w4 ⟨z, rfl, ho, hb⟩
  have HO4 := Lib.hid (own_mono ho HE.out.size)
  have HE4 := Lib.hid (HE.out.trans hb)
  clear ho hb
  go_wp2_with fail
  go_ret
  exact ⟨_, rfl, own_eq HO4.out HF.out (by rw [HSB.out]), HE4.out⟩

set_option maxRecDepth 100000 in
set_option maxHeartbeats 8000000 in
theorem AOpen_num (kb nb b s : List UInt8) (bv sv : Value) (w : World) (hk : kb.length = 32) (hn : nb.length = 12) (hb : Row1 w bv (b.map bval)) (hs : Row1 w sv (s.map bval)) (hbl : b.length ≤ 1000000000) (hsl : s.length ≤ 1000000000) :
    Calls Try.prog 20 #[.agg (kb.map bval).toArray, .agg (nb.map bval).toArray, bv, sv] w fun e w' => ∃ x, e = .returned (.tuple #[x, .int .i64 (aErr (openB kb nb b s))]) ∧ Row1 w' x (((openB kb nb b s).getD []).map bval) ∧ Below w.heap.size w w' := by
  have HB0 := Lib.hid hb
  have HS0 := Lib.hid hs
  have HBL := Lib.hid hbl
  have HSL := Lib.hid hsl
  obtain ⟨ab, capb, hbv, r1, r2, _⟩ := id hb
  rw [List.length_map] at hbv r1
  subst hbv
  obtain ⟨ad, caps, hsv, _⟩ := id hs
  subst hsv
  unfold maxLen at r2
  have HB := Lib.hid (boxes2 w (kb.map bval) (nb.map bval) 34 44)
  have HIK : Hid ((Try.prog.info? 34).map (·.size) = some (kb.map bval).length) := Lib.hid (num_size hk)
  have HIN : Hid ((Try.prog.info? 44).map (·.size) = some (nb.map bval).length) := Lib.hid (nonce_size hn)
  have HKL := Lib.hid hk
  have HNL := Lib.hid hn
  have hb0 : (0 : Int) ≤ (b.length : Int) := Int.natCast_nonneg _
  clear hb hs hk hn hsl
  go_enter Try.func20, Try.ntmps20
  go_upto_region 1 with (fail)
  obtain ⟨H1, H2, HE⟩ := HB.out
  change Code.wp _ _ _ _ ((w.alloc (.cells (kb.map bval).toArray 34)).alloc (.cells (nb.map bval).toArray 44))
  generalize (w.alloc (.cells (kb.map bval).toArray 34)).alloc (.cells (nb.map bval).toArray 44) = wa at *
  obtain ⟨A, hA⟩ : ∃ A, A = w.heap.size := ⟨_, rfl⟩
  rw [← hA] at H1 H2 ⊢
  have H1 := Lib.hid H1
  have H2 := Lib.hid H2
  have HE : Hid (Ext w wa) := Lib.hid HE
  clear hA HB
  by_cases h16 : b.length < 16
  · have h16' : (b.length : Int) - 16 < 0 := by omega
    have h17' : (b.length : Int) < 16 := by omega
    have HON := Lib.hid (openB_short kb nb s h16)
    go_wp2_with fail
    refine bodyPost_ret (res_two rfl _ _) rfl ?_
    exact ⟨_, by rw [HON.out]; rfl, by rw [HON.out]; exact Row1.nil _, HE.out⟩
  · obtain ⟨q, hq⟩ : ∃ q, q = b.length - 16 := ⟨_, rfl⟩
    have q1 : (b.length : Int) - 16 = (q : Int) := by omega
    have q0 : (0 : Int) ≤ (q : Int) := Int.natCast_nonneg _
    have q2 : ¬ (q : Int) < 0 := by omega
    have hql : q ≤ (b.map bval).length := by rw [List.length_map]; omega
    have HQL : Hid (q ≤ 1000000000) := Lib.hid (by omega)
    have HQT : Hid ((b.take q).length ≤ 1099511627776) := Lib.hid (by rw [List.length_take]; omega)
    have HOP : Hid (openB kb nb b s = if aeaTag kb nb (b.take q) s = b.drop q then some (chaTurn kb 1 nb (b.take q)) else none) := Lib.hid (by
      unfold openB
      rw [if_neg h16, ← hq])
    have HBR := Lib.hid (HB0.out.below HE.out)
    obtain ⟨vt, ht, st⟩ := row_upto Try.underlying22 Try.sizeOf5 HBR.out q hql
    obtain ⟨at1, nt1, ct1, rfl⟩ := row_form2 ht
    rw [← List.map_take] at ht
    have HTR := Lib.hid ht
    have HST := Lib.hid st
    obtain ⟨vh, hh, sh⟩ := row_cut Try.underlying22 Try.sizeOf5 HBR.out q hql
    obtain ⟨ah, nh, ch, rfl⟩ := row_form2 hh
    rw [← List.map_drop] at hh
    have HHR := Lib.hid hh
    have HSH := Lib.hid sh
    have hqcap : (q : Int) ≤ (capb : Int) := by rw [List.length_map] at hql; omega
    have HSR := Lib.hid (HS0.out.below HE.out)
    clear ht hh st sh hbl hq h16 hql
    have HTL := Lib.hid (aeaTag_length kb nb (b.take q) s)
    have HIT : Hid ((Try.prog.info? 58).map (·.size) = some ((aeaTag kb nb (b.take q) s).map bval).length) := Lib.hid (tag_size HTL.out)
    have HLo : Hid (((aeaTag kb nb (b.take q) s).map bval).length = (ints .u8 (List.replicate 16 0)).length) := Lib.hid (by rw [List.length_map, HTL.out, ints_length, List.length_replicate])
    have HCT : Hid (∀ wx, Ext wa wx → Calls Try.prog 30 #[.agg (kb.map bval).toArray, .agg (nb.map bval).toArray, .slice at1 nt1 ct1, .slice ad (s.map bval).length caps] wx fun e w' => e = .returned (.agg ((aeaTag kb nb (b.take q) s).map bval).toArray) ∧ Below wx.heap.size wx w') := Lib.hid (fun wx hx => atagOf_any kb nb (b.take q) s _ _ wx HKL.out HNL.out (HTR.out.below hx) (HSR.out.below hx) (by rw [List.length_take]; have := HQL.out; omega) HSL.out)
    obtain ⟨tg, htg⟩ : ∃ tg, tg = aeaTag kb nb (b.take q) s := ⟨_, rfl⟩
    rw [← htg] at HTL HIT HLo HCT HOP
    clear htg
    generalize (s.map bval).length = sl at *
    go_upto_region 4 with (fail)
    refine wp_region_from 7 2 8 rfl (by kernel_rfl) (by kernel_rfl) (fun d v c a w h => by cases d <;> exact h) (by kernel_rfl) ?_
    refine det_load _ _ A (kb.map bval) _ (by rfl) rfl rfl (fun w hw => ext_range H1.out hw) Try.underlying34 rfl HIK.out ?_
    simp only [Act.put, List.getElem_toArray, List.getElem_cons_zero, List.getElem_cons_succ, List.setIfInBounds_toArray, List.set_cons_zero, List.set_cons_succ]
    refine det_load _ _ (A + 1) (nb.map bval) _ (by rfl) rfl rfl (fun w hw => ext_range H2.out hw) Try.underlying44 rfl HIN.out ?_
    simp only [Act.put, List.getElem_toArray, List.getElem_cons_zero, List.getElem_cons_succ, List.setIfInBounds_toArray, List.set_cons_zero, List.set_cons_succ]
    refine det_move _ (.slice ab b.length capb) (by rfl) rfl rfl ?_
    simp only [Act.put, List.getElem_toArray, List.getElem_cons_zero, List.getElem_cons_succ, List.setIfInBounds_toArray, List.set_cons_zero, List.set_cons_succ]
    refine det_move _ (.int .i64 ((q : Nat) : Int)) (by rfl) rfl rfl ?_
    simp only [Act.put, List.getElem_toArray, List.getElem_cons_zero, List.getElem_cons_succ, List.setIfInBounds_toArray, List.set_cons_zero, List.set_cons_succ]
    refine det_val (.slice at1 nt1 ct1) (by rfl) (fun w hw => by have st := HST.out; unfold execOp; simp only [Act.eval, Sem.run_bind, Option.map_some, Option.map_none]; go_simp) ?_
    simp only [Act.put, List.getElem_toArray, List.getElem_cons_zero, List.getElem_cons_succ, List.setIfInBounds_toArray, List.set_cons_zero, List.set_cons_succ]
    refine det_move _ (.slice ad sl caps) (by rfl) rfl rfl ?_
    simp only [Act.put, List.getElem_toArray, List.getElem_cons_zero, List.getElem_cons_succ, List.setIfInBounds_toArray, List.set_cons_zero, List.set_cons_succ]
    refine det_call _ _ _ [.agg (kb.map bval).toArray, .agg (nb.map bval).toArray, .slice at1 nt1 ct1, .slice ad sl caps] (.agg (tg.map bval).toArray) (by rfl) rfl Try.call30 rfl (fun w hw => HCT.out w hw) ?_
    simp only [Act.put, List.getElem_toArray, List.getElem_cons_zero, List.getElem_cons_succ, List.setIfInBounds_toArray, List.set_cons_zero, List.set_cons_succ]
    refine det_nil (end_var (k := 7) _ 11 (.tmp 23) (ints .u8 (List.replicate 16 0)) (tg.map bval) rfl rfl (by kernel_rfl) (by kernel_rfl) (by kernel_rfl) (by kernel_rfl) (by kernel_rfl) rfl rfl rfl rfl Try.zeroValue58 rfl (by simp) (fun p => rfl) HLo.out HIT.out (bval_one _) (fun p7 w7 hp7 hb7 he7 => ?_))
    simp only [Act.put, List.getElem_toArray, List.getElem_cons_zero, List.getElem_cons_succ, List.setIfInBounds_toArray, List.set_cons_zero, List.set_cons_succ]
    have H1 := Lib.hid (ext_blk H1.out he7)
    have H2 := Lib.hid (ext_blk H2.out he7)
    have H7 := Lib.hid hb7
    have HB7 := Lib.hid (HBR.out.below he7)
    have HT7 := Lib.hid (HTR.out.below he7)
    have HH7 := Lib.hid (HHR.out.below he7)
    have HE := Lib.hid (HE.out.trans he7)
    clear hb7 he7 hp7 HCT HSR HBR HTR HHR HLo
    go_upto_region 5 with (fail)
    by_cases heq : tg = b.drop q
    · have HOS : Hid (openB kb nb b s = some (chaTurn kb 1 nb (b.take q))) := Lib.hid (by rw [HOP.out, if_pos heq])
      have rb := HH7.out
      have B0 : Ext w7 w7.drew := Ext.drew _
      refine wp_region_held_drew (S := fun w' => Ext w7 w') (by kernel_rfl) B0 (fun hHeld => ?_)
      have rb := rb.below (Ext.drew _)
      refine wpAnyH_take (i := 0) (v := .slice (some ⟨p7, 0, none⟩) 16 16) rfl (by kernel_rfl) (by kernel_rfl) (by kernel_rfl) (fun _ _ _ h => h) (yi_slice _ _ _ _ (.pointer (some ⟨p7, 0, none⟩)) (.slice (some ⟨p7, 0, none⟩) 16 16) none none (by rfl) rfl rfl rfl rfl (fun w => cut_whole Try.underlying58 Try.sizeOf5 (by omega) _ w)) hHeld ?_
      simp only [Act.put, List.getElem_toArray, List.getElem_cons_zero, List.getElem_cons_succ, List.setIfInBounds_toArray, List.set_cons_zero, List.set_cons_succ]
      refine wpAnyH_take (i := 1) (v := .slice ab b.length capb) rfl (by kernel_rfl) (by kernel_rfl) (by kernel_rfl) (fun _ _ _ h => h) (yi_move _ (.slice ab b.length capb) (by rfl) rfl rfl) hHeld ?_
      simp only [Act.put, List.getElem_toArray, List.getElem_cons_zero, List.getElem_cons_succ, List.setIfInBounds_toArray, List.set_cons_zero, List.set_cons_succ]
      refine wpAnyH_take (i := 2) (v := .int .i64 ((q : Nat) : Int)) rfl (by kernel_rfl) (by kernel_rfl) (by kernel_rfl) (fun _ _ _ h => h) (yi_move _ (.int .i64 ((q : Nat) : Int)) (by rfl) rfl rfl) hHeld ?_
      simp only [Act.put, List.getElem_toArray, List.getElem_cons_zero, List.getElem_cons_succ, List.setIfInBounds_toArray, List.set_cons_zero, List.set_cons_succ]
      refine wpAnyH_take (i := 3) (v := .slice ah nh ch) rfl (by kernel_rfl) (by kernel_rfl) (by kernel_rfl) (fun _ _ _ h => h) (yi_slice _ _ _ _ (.slice ab b.length capb) (.slice ah nh ch) (some (.int .i64 ((q : Nat) : Int))) none (by rfl) rfl rfl rfl rfl HSH.out) hHeld ?_
      simp only [Act.put, List.getElem_toArray, List.getElem_cons_zero, List.getElem_cons_succ, List.setIfInBounds_toArray, List.set_cons_zero, List.set_cons_succ]
      refine wpAnyH_ready (rs := [4]) (by kernel_rfl) (by simp) (AllReadyH.cons rfl (fun K hK => ?_) AllReadyH.nil)
      go_simp
      refine (same_true (.slice (some ⟨p7, 0, none⟩) 16 16) (.slice ah nh ch) tg (b.drop q) w7.drew ((blk_row (n := 16) H7.out (by rw [List.length_map]; exact HTL.out) (by unfold maxLen; omega)).below B0) rb heq).mono ?_
      rintro e m1 ⟨rfl, b1⟩
      have rb := rb.below b1
      have N1 : Ext w7 m1 := B0.trans b1
      refine hK.out _ _ N1 (fun hHeld => ?_)
      clear hK K
      try simp only [Act.put, List.getElem_toArray, List.getElem_cons_zero, List.getElem_cons_succ, List.setIfInBounds_toArray, List.set_cons_zero, List.set_cons_succ]
      refine wpAnyH_take (i := 5) (v := .bool false) rfl (by kernel_rfl) (by kernel_rfl) (by kernel_rfl) (fun _ _ _ h => h) (yi_not _ _ true (by rfl) rfl rfl) hHeld ?_
      simp only [Act.put, List.getElem_toArray, List.getElem_cons_zero, List.getElem_cons_succ, List.setIfInBounds_toArray, List.set_cons_zero, List.set_cons_succ]
      refine wpAnyH_done (by kernel_rfl) ?_ _
      have HN8 : Hid (Ext w7 m1) := Lib.hid N1
      generalize m1 = w8 at HN8 ⊢
      have H1 := Lib.hid (ext_blk H1.out HN8.out)
      have H2 := Lib.hid (ext_blk H2.out HN8.out)
      have HB8 := Lib.hid (HB7.out.below HN8.out)
      have HT8 := Lib.hid (HT7.out.below HN8.out)
      have HE := Lib.hid (HE.out.trans HN8.out)
      clear HOP heq
      go_upto_region 7 with (fail)
      have rt := HT8.out
      have B0 : Ext w8 w8.drew := Ext.drew _
      refine wp_region_held_drew (S := fun w' => Ext w8 w') (by kernel_rfl) B0 (fun hHeld => ?_)
      have rt := rt.below (Ext.drew _)
      refine wpAnyH_take (i := 0) (v := .agg ((kb).map bval).toArray) rfl (by kernel_rfl) (by kernel_rfl) (by kernel_rfl) (fun _ _ _ h => h) (yieldsIf_load_mid (by rfl) _ _ rfl A 0 rfl _ _ (fun w h => bl_range H1.out h) Try.underlying34 rfl HIK.out) hHeld ?_
      simp only [Act.put, List.getElem_toArray, List.getElem_cons_zero, List.getElem_cons_succ, List.setIfInBounds_toArray, List.set_cons_zero, List.set_cons_succ]
      refine wpAnyH_take (i := 1) (v := .agg ((nb).map bval).toArray) rfl (by kernel_rfl) (by kernel_rfl) (by kernel_rfl) (fun _ _ _ h => h) (yieldsIf_load_mid (by rfl) _ _ rfl (A + 1) 0 rfl _ _ (fun w h => bl_range H2.out h) Try.underlying44 rfl HIN.out) hHeld ?_
      simp only [Act.put, List.getElem_toArray, List.getElem_cons_zero, List.getElem_cons_succ, List.setIfInBounds_toArray, List.set_cons_zero, List.set_cons_succ]
      refine wpAnyH_take (i := 2) (v := .slice ab b.length capb) rfl (by kernel_rfl) (by kernel_rfl) (by kernel_rfl) (fun _ _ _ h => h) (yi_move _ (.slice ab b.length capb) (by rfl) rfl rfl) hHeld ?_
      simp only [Act.put, List.getElem_toArray, List.getElem_cons_zero, List.getElem_cons_succ, List.setIfInBounds_toArray, List.set_cons_zero, List.set_cons_succ]
      refine wpAnyH_take (i := 3) (v := .int .i64 ((q : Nat) : Int)) rfl (by kernel_rfl) (by kernel_rfl) (by kernel_rfl) (fun _ _ _ h => h) (yi_move _ (.int .i64 ((q : Nat) : Int)) (by rfl) rfl rfl) hHeld ?_
      simp only [Act.put, List.getElem_toArray, List.getElem_cons_zero, List.getElem_cons_succ, List.setIfInBounds_toArray, List.set_cons_zero, List.set_cons_succ]
      refine wpAnyH_take (i := 4) (v := .slice at1 nt1 ct1) rfl (by kernel_rfl) (by kernel_rfl) (by kernel_rfl) (fun _ _ _ h => h) (yi_slice _ _ _ _ (.slice ab b.length capb) (.slice at1 nt1 ct1) none (some (.int .i64 ((q : Nat) : Int))) (by rfl) rfl rfl rfl rfl HST.out) hHeld ?_
      simp only [Act.put, List.getElem_toArray, List.getElem_cons_zero, List.getElem_cons_succ, List.setIfInBounds_toArray, List.set_cons_zero, List.set_cons_succ]
      refine wpAnyH_ready (rs := [5]) (by kernel_rfl) (by simp) (AllReadyH.cons rfl (fun K hK => ?_) AllReadyH.nil)
      go_simp
      refine (aturned_any kb nb (b.take q) _ w8.drew HKL.out HNL.out rt HQT.out).mono ?_
      rintro e m1 ⟨x1, rfl, o1, b1⟩
      have rt := rt.below b1
      have r1 : Row1 m1 x1 ((chaTurn kb 1 nb (b.take q)).map bval) := Row1.of_own o1
      obtain ⟨a1, c1, hx1, _⟩ := id r1
      rw [show ((chaTurn kb 1 nb (b.take q)).map bval).length = (chaTurn kb 1 nb (b.take q)).length from by rw [List.length_map]] at hx1
      subst hx1
      have N1 : Ext w8 m1 := B0.trans b1
      refine hK.out _ _ N1 (fun hHeld => ?_)
      clear hK K
      try simp only [Act.put, List.getElem_toArray, List.getElem_cons_zero, List.getElem_cons_succ, List.setIfInBounds_toArray, List.set_cons_zero, List.set_cons_succ]
      refine wpAnyH_take (i := 6) (v := .slice a1 ((chaTurn kb 1 nb (b.take q)).length) c1) rfl (by kernel_rfl) (by kernel_rfl) (by kernel_rfl) (fun _ _ _ h => h) (yi_assign _ (.slice a1 ((chaTurn kb 1 nb (b.take q)).length) c1) (by rfl) rfl rfl) hHeld ?_
      simp only [Act.put, List.getElem_toArray, List.getElem_cons_zero, List.getElem_cons_succ, List.setIfInBounds_toArray, List.set_cons_zero, List.set_cons_succ]
      refine wpAnyH_ready (rs := [7]) (by kernel_rfl) (by simp) (AllReadyH.cons rfl (fun K hK => ?_) AllReadyH.nil)
      go_simp
      refine hK.out _ _ N1 (fun hHeld => ?_)
      clear hK K
      try simp only [Act.put, List.getElem_toArray, List.getElem_cons_zero, List.getElem_cons_succ, List.setIfInBounds_toArray, List.set_cons_zero, List.set_cons_succ]
      refine wpAnyH_done (by kernel_rfl) ?_ _
      go_wp2_with fail
      refine bodyPost_ret (res_two rfl _ _) rfl ?_
      exact ⟨_, by rw [HOS.out]; rfl, by rw [HOS.out]; exact r1, HE.out.trans N1⟩
    · have HOS : Hid (openB kb nb b s = none) := Lib.hid (by rw [HOP.out, if_neg heq])
      have rb := HH7.out
      have B0 : Ext w7 w7.drew := Ext.drew _
      refine wp_region_held_drew (S := fun w' => Ext w7 w') (by kernel_rfl) B0 (fun hHeld => ?_)
      have rb := rb.below (Ext.drew _)
      refine wpAnyH_take (i := 0) (v := .slice (some ⟨p7, 0, none⟩) 16 16) rfl (by kernel_rfl) (by kernel_rfl) (by kernel_rfl) (fun _ _ _ h => h) (yi_slice _ _ _ _ (.pointer (some ⟨p7, 0, none⟩)) (.slice (some ⟨p7, 0, none⟩) 16 16) none none (by rfl) rfl rfl rfl rfl (fun w => cut_whole Try.underlying58 Try.sizeOf5 (by omega) _ w)) hHeld ?_
      simp only [Act.put, List.getElem_toArray, List.getElem_cons_zero, List.getElem_cons_succ, List.setIfInBounds_toArray, List.set_cons_zero, List.set_cons_succ]
      refine wpAnyH_take (i := 1) (v := .slice ab b.length capb) rfl (by kernel_rfl) (by kernel_rfl) (by kernel_rfl) (fun _ _ _ h => h) (yi_move _ (.slice ab b.length capb) (by rfl) rfl rfl) hHeld ?_
      simp only [Act.put, List.getElem_toArray, List.getElem_cons_zero, List.getElem_cons_succ, List.setIfInBounds_toArray, List.set_cons_zero, List.set_cons_succ]
      refine wpAnyH_take (i := 2) (v := .int .i64 ((q : Nat) : Int)) rfl (by kernel_rfl) (by kernel_rfl) (by kernel_rfl) (fun _ _ _ h => h) (yi_move _ (.int .i64 ((q : Nat) : Int)) (by rfl) rfl rfl) hHeld ?_
      simp only [Act.put, List.getElem_toArray, List.getElem_cons_zero, List.getElem_cons_succ, List.setIfInBounds_toArray, List.set_cons_zero, List.set_cons_succ]
      refine wpAnyH_take (i := 3) (v := .slice ah nh ch) rfl (by kernel_rfl) (by kernel_rfl) (by kernel_rfl) (fun _ _ _ h => h) (yi_slice _ _ _ _ (.slice ab b.length capb) (.slice ah nh ch) (some (.int .i64 ((q : Nat) : Int))) none (by rfl) rfl rfl rfl rfl HSH.out) hHeld ?_
      simp only [Act.put, List.getElem_toArray, List.getElem_cons_zero, List.getElem_cons_succ, List.setIfInBounds_toArray, List.set_cons_zero, List.set_cons_succ]
      refine wpAnyH_ready (rs := [4]) (by kernel_rfl) (by simp) (AllReadyH.cons rfl (fun K hK => ?_) AllReadyH.nil)
      go_simp
      refine (same_false (.slice (some ⟨p7, 0, none⟩) 16 16) (.slice ah nh ch) tg (b.drop q) w7.drew ((blk_row (n := 16) H7.out (by rw [List.length_map]; exact HTL.out) (by unfold maxLen; omega)).below B0) rb heq).mono ?_
      rintro e m1 ⟨rfl, b1⟩
      have rb := rb.below b1
      have N1 : Ext w7 m1 := B0.trans b1
      refine hK.out _ _ N1 (fun hHeld => ?_)
      clear hK K
      try simp only [Act.put, List.getElem_toArray, List.getElem_cons_zero, List.getElem_cons_succ, List.setIfInBounds_toArray, List.set_cons_zero, List.set_cons_succ]
      refine wpAnyH_take (i := 5) (v := .bool true) rfl (by kernel_rfl) (by kernel_rfl) (by kernel_rfl) (fun _ _ _ h => h) (yi_not _ _ false (by rfl) rfl rfl) hHeld ?_
      simp only [Act.put, List.getElem_toArray, List.getElem_cons_zero, List.getElem_cons_succ, List.setIfInBounds_toArray, List.set_cons_zero, List.set_cons_succ]
      refine wpAnyH_done (by kernel_rfl) ?_ _
      have HN8 : Hid (Ext w7 m1) := Lib.hid N1
      generalize m1 = w8 at HN8 ⊢
      have HE := Lib.hid (HE.out.trans HN8.out)
      clear HOP heq
      go_wp2_with fail
      refine bodyPost_ret (res_two rfl _ _) rfl ?_
      exact ⟨_, by rw [HOS.out]; rfl, by rw [HOS.out]; exact Row1.nil _, HE.out⟩

end Go.Proofs.Ytjnnhkodkbhbbaa

/- The walks of package pack's Int: a row of the call's own. Each theorem names its own conditions. -/
namespace Go.Proofs.Ytjnnhkodkbhbbaa
open Go.RowKit
set_option linter.unusedVariables false

theorem pck_i64wrap (n : Int) : IntKind.i64.wrap n = wrap64 n := IntWalk.i64_left n
theorem pck_row_nums {w : World} {b off : Nat} {zs : List Int} (h : ∀ i, i < (zs.map (Value.int .i64)).length → w.cell? ⟨b, off + i, none⟩ = (zs.map (Value.int .i64))[i]?) :
    ∀ i, i < zs.length → w.cell? ⟨b, off + i, none⟩ = some (.int .i64 (zs.getD i 0)) := by
  intro i hi
  rw [h i (by simpa using hi)]
  simp [List.getD, hi]
theorem be8_cells (n : Int) : (pck_be8 n).map bval = [.int .u8 (n / 72057594037927936 % 256), .int .u8 (n / 281474976710656 % 256), .int .u8 (n / 1099511627776 % 256), .int .u8 (n / 4294967296 % 256), .int .u8 (n / 16777216 % 256), .int .u8 (n / 65536 % 256), .int .u8 (n / 256 % 256), .int .u8 (n % 256)] := by
  simp [pck_be8, byte_cell]
theorem pck_num_ext {k : IntKind} {a b : Int} (h : a = b) : Value.int k a = Value.int k b := by rw [h]
end Go.Proofs.Ytjnnhkodkbhbbaa

/- The walks of package pack's Int: a row of the call's own. Each theorem names its own conditions. -/
namespace Go.Proofs.Ytjnnhkodkbhbbaa
open Go.RowKit
set_option linter.unusedVariables false

set_option maxHeartbeats 400000 in
theorem room_any {bv : Value} {bl : List UInt8} (r : Nat) (w : World) (hb : Row1 w bv (bl.map bval)) (hsz : bl.length + r ≤ 1099511627776) :
    Calls Try.prog 42 #[bv, .int .i64 r] w fun e w' => ∃ v, e = .returned v ∧ w'.ownsRow w.heap.size 5 1 v bl.length (bl.map bval) ∧ Below w.heap.size w w' := by
  obtain ⟨i0, hi, hz0, hz1, hz2⟩ := info_parts Try.info5
  have hb0 := hb
  obtain ⟨a, cap, rfl, h1, h2, h3, h4⟩ := hb
  rw [List.length_map] at h1 hb0 ⊢
  unfold maxLen at h2
  clear h3 h4
  have hr0 : (0 : Int) ≤ (r : Int) := Int.natCast_nonneg _
  obtain ⟨wm, hmk, hmo, hmg⟩ := run_make_own (P := Try.prog) w w.heap.size 22 5 i0 (.int .u8 0) 1 Try.underlying22 hi hz0 hz1 .i64 .i64 (bl.length + r) (by rw [hz2]; omega) (by unfold maxLen; omega) (Nat.le_refl _)
  rw [show ((bl.length + r : Nat) : Int) = (bl.length : Int) + (r : Int) from by omega] at hmk
  have hrb := Lib.hid (hb0.grown hmg (fun k hk => by cases hk))
  have HMO := Lib.hid hmo
  have HMG := Lib.hid hmg
  have hbl : Hid ((bl.map bval).length = bl.length) := Lib.hid (by simp)
  clear hmo hmg hb0
  go_enter Try.func42, Try.ntmps42
  go_wp2_with (at_builtin; refine wpList_append_row rfl _ _ 22 rfl w.heap.size 5 i0 (.int .u8 0) 1 Try.underlying22 hi hz0 hz1 hz2 rfl _ 0 [] rfl HMO.out rfl hrb.out (bval_one _) (by rw [hbl.out]; unfold maxLen; omega) (by rw [hbl.out]; omega) HMG.out.size ?_; intro v2 w2 hown2 hgrow2)
  have hb2 : Below w.heap.size w w2 := ((Below.refl _ _).grown HMG.out (Nat.le_refl _) (fun r hr => by cases hr)).grown hgrow2 HMG.out.size (fun r hr => (HMO.out.lt r hr).1)
  rw [List.nil_append, hbl.out, Nat.zero_add] at hown2
  have HO := Lib.hid hown2
  have HB := Lib.hid hb2
  clear hown2 hgrow2 hb2
  go_wp2_with fail
  go_ret
  exact ⟨_, rfl, HO.out, HB.out⟩
set_option maxHeartbeats 2000000 in
theorem appnum_any (base : Nat) (ov : Value) (m : Nat) (xs : List Value) (n : Int) (w : World) (ho : w.ownsRow base 5 1 ov m xs) (hbase : base ≤ w.heap.size) (hm : m ≤ 1099511627776) :
    Calls Try.prog 43 #[ov, .int .i64 n] w fun e w' => ∃ v, e = .returned v ∧ w'.ownsRow base 5 1 v (m + 8) (xs ++ (pck_be8 n).map bval) ∧ Below base w w' := by
  obtain ⟨i0, hi, hz0, hz1, hz2⟩ := info_parts Try.info5
  have HO := Lib.hid ho
  have HB := Lib.hid (Below.refl base w)
  have hbase0 := hbase
  clear ho
  go_enter Try.func43, Try.ntmps43
  go_wp2_with fail
  refine wp_loop_rounds 9 ?_
  rw [rounds_succ]
  go_wp2_with (at_builtin; refine wpList_append_row rfl _ _ 22 rfl base 5 i0 (.int .u8 0) 1 Try.underlying22 hi hz0 hz1 hz2 rfl _ (m + 0) _ rfl (HO.out.alloc _) rfl (Row1.made _ _ _ _ 1 _ rfl rfl rfl (by unfold maxLen; omega)) (by simp [Value.oneCell']) (by unfold maxLen; simp; omega) (by simp; omega) (by simp; omega) ?_; intro v1 w1 hown1 hgrow1)
  have hb1 := (HB.out.alloc hbase _).grown hgrow1 (by simp; omega) (fun r hr => (HO.out.lt r hr).1)
  have hbase := Nat.le_trans hbase0 hb1.size
  clear HO HB
  have HO := Lib.hid hown1
  have HB := Lib.hid hb1
  clear hown1 hb1 hgrow1
  rw [rounds_succ]
  go_wp2_with (at_builtin; refine wpList_append_row rfl _ _ 22 rfl base 5 i0 (.int .u8 0) 1 Try.underlying22 hi hz0 hz1 hz2 rfl _ (m + 1) _ rfl (HO.out.alloc _) rfl (Row1.made _ _ _ _ 1 _ rfl rfl rfl (by unfold maxLen; omega)) (by simp [Value.oneCell']) (by unfold maxLen; simp; omega) (by simp; omega) (by simp; omega) ?_; intro v2 w2 hown2 hgrow2)
  have hb2 := (HB.out.alloc hbase _).grown hgrow2 (by simp; omega) (fun r hr => (HO.out.lt r hr).1)
  have hbase := Nat.le_trans hbase0 hb2.size
  clear HO HB
  have HO := Lib.hid hown2
  have HB := Lib.hid hb2
  clear hown2 hb2 hgrow2
  rw [rounds_succ]
  go_wp2_with (at_builtin; refine wpList_append_row rfl _ _ 22 rfl base 5 i0 (.int .u8 0) 1 Try.underlying22 hi hz0 hz1 hz2 rfl _ (m + 2) _ rfl (HO.out.alloc _) rfl (Row1.made _ _ _ _ 1 _ rfl rfl rfl (by unfold maxLen; omega)) (by simp [Value.oneCell']) (by unfold maxLen; simp; omega) (by simp; omega) (by simp; omega) ?_; intro v3 w3 hown3 hgrow3)
  have hb3 := (HB.out.alloc hbase _).grown hgrow3 (by simp; omega) (fun r hr => (HO.out.lt r hr).1)
  have hbase := Nat.le_trans hbase0 hb3.size
  clear HO HB
  have HO := Lib.hid hown3
  have HB := Lib.hid hb3
  clear hown3 hb3 hgrow3
  rw [rounds_succ]
  go_wp2_with (at_builtin; refine wpList_append_row rfl _ _ 22 rfl base 5 i0 (.int .u8 0) 1 Try.underlying22 hi hz0 hz1 hz2 rfl _ (m + 3) _ rfl (HO.out.alloc _) rfl (Row1.made _ _ _ _ 1 _ rfl rfl rfl (by unfold maxLen; omega)) (by simp [Value.oneCell']) (by unfold maxLen; simp; omega) (by simp; omega) (by simp; omega) ?_; intro v4 w4 hown4 hgrow4)
  have hb4 := (HB.out.alloc hbase _).grown hgrow4 (by simp; omega) (fun r hr => (HO.out.lt r hr).1)
  have hbase := Nat.le_trans hbase0 hb4.size
  clear HO HB
  have HO := Lib.hid hown4
  have HB := Lib.hid hb4
  clear hown4 hb4 hgrow4
  rw [rounds_succ]
  go_wp2_with (at_builtin; refine wpList_append_row rfl _ _ 22 rfl base 5 i0 (.int .u8 0) 1 Try.underlying22 hi hz0 hz1 hz2 rfl _ (m + 4) _ rfl (HO.out.alloc _) rfl (Row1.made _ _ _ _ 1 _ rfl rfl rfl (by unfold maxLen; omega)) (by simp [Value.oneCell']) (by unfold maxLen; simp; omega) (by simp; omega) (by simp; omega) ?_; intro v5 w5 hown5 hgrow5)
  have hb5 := (HB.out.alloc hbase _).grown hgrow5 (by simp; omega) (fun r hr => (HO.out.lt r hr).1)
  have hbase := Nat.le_trans hbase0 hb5.size
  clear HO HB
  have HO := Lib.hid hown5
  have HB := Lib.hid hb5
  clear hown5 hb5 hgrow5
  rw [rounds_succ]
  go_wp2_with (at_builtin; refine wpList_append_row rfl _ _ 22 rfl base 5 i0 (.int .u8 0) 1 Try.underlying22 hi hz0 hz1 hz2 rfl _ (m + 5) _ rfl (HO.out.alloc _) rfl (Row1.made _ _ _ _ 1 _ rfl rfl rfl (by unfold maxLen; omega)) (by simp [Value.oneCell']) (by unfold maxLen; simp; omega) (by simp; omega) (by simp; omega) ?_; intro v6 w6 hown6 hgrow6)
  have hb6 := (HB.out.alloc hbase _).grown hgrow6 (by simp; omega) (fun r hr => (HO.out.lt r hr).1)
  have hbase := Nat.le_trans hbase0 hb6.size
  clear HO HB
  have HO := Lib.hid hown6
  have HB := Lib.hid hb6
  clear hown6 hb6 hgrow6
  rw [rounds_succ]
  go_wp2_with (at_builtin; refine wpList_append_row rfl _ _ 22 rfl base 5 i0 (.int .u8 0) 1 Try.underlying22 hi hz0 hz1 hz2 rfl _ (m + 6) _ rfl (HO.out.alloc _) rfl (Row1.made _ _ _ _ 1 _ rfl rfl rfl (by unfold maxLen; omega)) (by simp [Value.oneCell']) (by unfold maxLen; simp; omega) (by simp; omega) (by simp; omega) ?_; intro v7 w7 hown7 hgrow7)
  have hb7 := (HB.out.alloc hbase _).grown hgrow7 (by simp; omega) (fun r hr => (HO.out.lt r hr).1)
  have hbase := Nat.le_trans hbase0 hb7.size
  clear HO HB
  have HO := Lib.hid hown7
  have HB := Lib.hid hb7
  clear hown7 hb7 hgrow7
  rw [rounds_succ]
  go_wp2_with (at_builtin; refine wpList_append_row rfl _ _ 22 rfl base 5 i0 (.int .u8 0) 1 Try.underlying22 hi hz0 hz1 hz2 rfl _ (m + 7) _ rfl (HO.out.alloc _) rfl (Row1.made _ _ _ _ 1 _ rfl rfl rfl (by unfold maxLen; omega)) (by simp [Value.oneCell']) (by unfold maxLen; simp; omega) (by simp; omega) (by simp; omega) ?_; intro v8 w8 hown8 hgrow8)
  have hb8 := (HB.out.alloc hbase _).grown hgrow8 (by simp; omega) (fun r hr => (HO.out.lt r hr).1)
  have hbase := Nat.le_trans hbase0 hb8.size
  clear HO HB
  have HO := Lib.hid hown8
  have HB := Lib.hid hb8
  clear hown8 hb8 hgrow8
  rw [rounds_succ]
  go_wp2_with fail
  go_ret
  refine ⟨_, rfl, ?_, HB.out⟩
  rw [be8_cells]
  simpa using HO.out
set_option maxHeartbeats 1000000 in
theorem pint_loop (bv : Value) (bl : List UInt8) (b off cap n : Nat) (ns : List Int) (w : World) (hb : Row1 w bv (bl.map bval)) (hn : ns.length = n) (hn0 : 0 < n) (hcap : n ≤ cap) (hm : cap ≤ maxLen) (hbw : b < w.heap.size)
    (hx : ∀ i, i < ns.length → w.cell? ⟨b, off + i, none⟩ = some (.int .i64 (ns.getD i 0))) (hsz : bl.length + 8 * n ≤ 1099511627776) :
    Calls Try.prog 33 #[bv, .slice (some ⟨b, off, none⟩) n cap] w fun e w' => ∃ v, e = .returned v ∧ w'.ownsRow w.heap.size 5 1 v (bl.length + 8 * n) ((bl ++ be8s ns).map bval) ∧ Below w.heap.size w w' := by
  unfold maxLen at hm
  have HX := Lib.hid hx
  have HN := Lib.hid hn
  have hroom := room_any (8 * n) w hb (by omega)
  rw [show ((8 * n : Nat) : Int) = 8 * (n : Int) from by omega] at hroom
  have HR := Lib.hid hroom
  clear hx hn hb hroom
  go_enter Try.func33, Try.ntmps33
  go_wp2_with fail
  refine HR.out.mono ?_
  rintro e w1 ⟨v1, rfl, hown1, hbel1⟩
  have HO1 := Lib.hid hown1
  have HB1 := Lib.hid hbel1
  clear hown1 hbel1
  go_wp2_with fail
  go_loopw [5, 15] (fun v i wr => ∃ k : Nat, k ≤ n ∧ i = .int .i64 k ∧ wr.ownsRow w.heap.size 5 1 v (bl.length + 8 * k) ((bl ++ be8s (ns.take k)).map bval) ∧ Below w.heap.size w wr) (fun _ i _ => n - (intOf i).toNat)
  case atStart => exact ⟨0, Nat.zero_le _, rfl, by simpa [be8s] using HO1.out, HB1.out⟩
  case round =>
    obtain ⟨k, hk, rfl, hown, hbel⟩ := hrel
    by_cases hlt : k < n
    · have hn := HN.out
      have c1 := hbel.cell (p := ⟨b, off + k, none⟩) hbw
      rw [HX.out k (by omega)] at c1
      have i0' : (0 : Int) ≤ (k : Int) := Int.natCast_nonneg _
      have i1 : (k : Int) < (n : Int) := by omega
      have hnext : be8s (ns.take (k + 1)) = be8s (ns.take k) ++ pck_be8 (ns.getD k 0) := by
        rw [List.take_succ_eq_append_getElem (by omega), be8s_snoc]
        simp [List.getD, show k < ns.length from by omega]
      generalize ns.getD k 0 = x at *
      have HA := Lib.hid (appnum_any w.heap.size _ _ _ x wr hown hbel.size (by omega))
      have HBE := Lib.hid hbel
      have HNX := Lib.hid hnext
      clear hn hown hbel hnext
      go_wp2_with fail
      refine HA.out.mono ?_
      rintro e w2 ⟨v2, rfl, hown2, hbel2⟩
      have hown3 : w2.ownsRow w.heap.size 5 1 v2 (bl.length + 8 * (k + 1)) ((bl ++ be8s (ns.take (k + 1))).map bval) := by
        rw [HNX.out, ← List.append_assoc, List.map_append]
        exact hown2
      have hbel3 := HBE.out.trans hbel2
      clear hown2 hbel2
      have HO3 := Lib.hid hown3
      have HB3 := Lib.hid hbel3
      clear hown3 hbel3
      go_wp2_with fail
      go_roundw
      case rel => exact ⟨k + 1, by omega, by go_num, HO3.out, HB3.out⟩
      case measure => simp [intOf]; omega
    · have hk' : k = n := by omega
      subst hk'
      have hn := HN.out
      rw [List.take_of_length_le (by omega)] at hown
      have HO := Lib.hid hown
      have HBE := Lib.hid hbel
      clear hown hbel hn
      go_wp2_with fail
      go_ret
      exact ⟨_, rfl, HO.out, HBE.out⟩
set_option maxHeartbeats 400000 in
theorem pint_none (bv : Value) (bl : List UInt8) (a : Option Addr) (cap : Nat) (w : World) (hb : Row1 w bv (bl.map bval)) (hsz : bl.length ≤ 1099511627776) (hm : cap ≤ maxLen) :
    Calls Try.prog 33 #[bv, .slice a 0 cap] w fun e w' => ∃ v, e = .returned v ∧ w'.ownsRow w.heap.size 5 1 v bl.length (bl.map bval) ∧ Below w.heap.size w w' := by
  unfold maxLen at hm
  have HR := Lib.hid (room_any 0 w hb (by omega))
  clear hb
  go_enter Try.func33, Try.ntmps33
  go_wp2_with fail
  refine HR.out.mono ?_
  rintro e w1 ⟨v1, rfl, hown1, hbel1⟩
  have HO1 := Lib.hid hown1
  have HB1 := Lib.hid hbel1
  clear hown1 hbel1
  go_wp2_with fail
  refine wp_loop_rounds 1 ?_
  rw [rounds_succ]
  go_wp2_with fail
  go_ret
  exact ⟨_, rfl, HO1.out, HB1.out⟩
/-- pack.Int: a row of the call's own. -/
theorem pint_own {bv lv : Value} {bl : List UInt8} {ns : List Int} (w : World) (hb : Row1 w bv (bl.map bval)) (hl : Row1 w lv (ns.map (.int .i64))) (hsz : bl.length + 8 * ns.length ≤ 1099511627776) :
    Calls Try.prog 33 #[bv, lv] w fun e w' => ∃ v, e = .returned v ∧ w'.ownsRow w.heap.size 5 1 v (bl.length + 8 * ns.length) ((bl ++ be8s ns).map bval) ∧ Below w.heap.size w w' := by
  obtain ⟨a, cap, rfl, h1, h2, h3, h4⟩ := hl
  rw [List.length_map] at h1 ⊢
  by_cases h0 : ns = []
  · subst h0
    have := pint_none bv bl a cap w hb (by omega) h2
    simpa [be8s] using this
  · obtain ⟨b, off, rfl, hbw, hc⟩ := h4 (by simpa using h0)
    exact pint_loop bv bl b off cap ns.length ns w hb rfl (List.length_pos_iff.2 h0) h1 h2 hbw (pck_row_nums hc) hsz
end Go.Proofs.Ytjnnhkodkbhbbaa

/- Where the cells of a row lie that is not empty. Nothing here speaks of a program. -/
namespace Go.Proofs.Ytjnnhkodkbhbbaa
open Go.RowKit

theorem row_range {w : World} {a : Option Addr} {n cap : Nat} {vs : List Value} (h : Row1 w (.slice a n cap) vs) (hne : vs ≠ []) : ∃ b off, a = some ⟨b, off, none⟩ ∧ w.rangeAt b off vs := by
  obtain ⟨a', cap', he, _, _, _, h5⟩ := h
  obtain ⟨b, off, ha, _, hc⟩ := h5 hne
  injection he with e1 e2 e3
  subst e1
  refine ⟨b, off, ha, fun j v hj => ?_⟩
  have hjl : j < vs.length := by
    rcases Nat.lt_or_ge j vs.length with h' | h'
    · exact h'
    · rw [List.getElem?_eq_none h'] at hj; cases hj
  rw [hc j hjl, hj]

end Go.Proofs.Ytjnnhkodkbhbbaa

/- The walks of package image's own isBlock, beside, nonce. Each theorem names its own conditions. -/
namespace Go.Proofs.Ytjnnhkodkbhbbaa
open Go.RowKit
set_option linter.unusedVariables false
set_option linter.unusedSimpArgs false

/-- Is there a block of that place? -/
def plcB (ver i : Int) : Bool := smallB ver && (decide (0 ≤ i) && decide (i ≤ 31))
theorem plcB_img (ver i : Int) (n m : Nat) : imgB ver i n m = (plcB ver i && decide (n = m)) := by
  unfold imgB plcB
  cases smallB ver <;> cases decide (0 ≤ i) <;> cases decide (i ≤ 31) <;> rfl
set_option maxRecDepth 100000 in
theorem iplc_any (ver i : Int) (w : World) : Calls Try.prog 21 #[.int .i64 ver, .int .i64 i] w fun e w' => e = .returned (.bool (plcB ver i)) ∧ w = w' := by
  have HP : Hid (plcB ver i = (decide (0 ≤ ver) && (decide (ver ≤ 2147483647) && (decide (0 ≤ i) && decide (i ≤ 31))))) := Lib.hid (by
    unfold plcB
    by_cases h1 : 0 ≤ ver
    · by_cases h2 : ver ≤ 2147483647
      · rw [smallB_of h1 h2, decide_eq_true h1, decide_eq_true h2]; rfl
      · rw [smallB_not (fun h => h2 h.2), decide_eq_false h2]; cases decide (0 ≤ ver) <;> rfl
    · rw [smallB_not (fun h => h1 h.1), decide_eq_false h1]; rfl)
  generalize plcB ver i = r at *
  by_cases h1 : 0 ≤ ver
  · by_cases h2 : ver ≤ 2147483647
    · by_cases h3 : 0 ≤ i
      · by_cases h4 : i < 32
        · have HB : Hid (r = true) := Lib.hid (by rw [HP.out, decide_eq_true h1, decide_eq_true h2, decide_eq_true h3, decide_eq_true (show i ≤ 31 by omega)]; rfl)
          go_enter Try.func21, Try.ntmps21
          go_wp2_with fail
          go_ret
          exact ⟨by rw [HB.out]; rfl, rfl⟩
        · have HB : Hid (r = false) := Lib.hid (by rw [HP.out, decide_eq_false (show ¬ i ≤ 31 by omega)]; simp)
          go_enter Try.func21, Try.ntmps21
          go_wp2_with fail
          go_ret
          exact ⟨by rw [HB.out]; rfl, rfl⟩
      · have HB : Hid (r = false) := Lib.hid (by rw [HP.out, decide_eq_false h3]; simp)
        go_enter Try.func21, Try.ntmps21
        go_wp2_with fail
        go_ret
        exact ⟨by rw [HB.out]; rfl, rfl⟩
    · have HB : Hid (r = false) := Lib.hid (by rw [HP.out, decide_eq_false h2]; simp)
      go_enter Try.func21, Try.ntmps21
      go_wp2_with fail
      go_ret
      exact ⟨by rw [HB.out]; rfl, rfl⟩
  · have HB : Hid (r = false) := Lib.hid (by rw [HP.out, decide_eq_false h1]; rfl)
    go_enter Try.func21, Try.ntmps21
    go_wp2_with fail
    go_ret
    exact ⟨by rw [HB.out]; rfl, rfl⟩
theorem iplc_q (ver i : Int) (r : Bool) (w : World) (hr : plcB ver i = r) : Calls Try.prog 21 #[.int .i64 ver, .int .i64 i] w fun e w' => e = .returned (.bool r) ∧ w = w' := by
  subst hr
  exact iplc_any ver i w

set_option maxRecDepth 100000 in
set_option maxHeartbeats 8000000 in
theorem ibes_any (ver : Int) (w : World) : Calls Try.prog 23 #[.int .i64 ver] w fun e w' => ∃ x, e = .returned x ∧ w'.ownsRow w.heap.size 5 1 x 8 ((pck_be8 ver).map bval) ∧ Below w.heap.size w w' := by
  have e2 := Ext.alloc w (.cells #[.int .i64 ver] 3)
  have r2 : Row1 (w.alloc (.cells #[.int .i64 ver] 3)) (.slice (some ⟨w.heap.size, 0, none⟩) 1 1) (([ver] : List Int).map (.int .i64)) := Row1.made w #[.int .i64 ver] 3 _ 1 _ rfl rfl rfl (by unfold maxLen; omega)
  have r0 : Row1 (w.alloc (.cells #[.int .i64 ver] 3)) (.slice none 0 0) (([] : List UInt8).map bval) := Row1.nil _
  have HC := Lib.hid (pint_own (bl := []) (ns := [ver]) _ r0 r2 (by simp))
  have HE := Lib.hid (show Ext w _ from e2)
  clear r0 e2 r2
  go_enter Try.func23, Try.ntmps23
  go_wp2_with fail
  refine HC.out.mono ?_
  rintro e w1 ⟨x, rfl, ho, hb⟩
  have HO := Lib.hid (own_mono ho HE.out.size)
  have HE := Lib.hid (HE.out.trans hb)
  clear ho hb HC
  go_wp2_with fail
  go_ret
  exact ⟨x, rfl, own_eq HO.out (by rfl) (by simp [be8s]), HE.out⟩

set_option maxRecDepth 100000 in
set_option maxHeartbeats 8000000 in
theorem inon_any (i : Int) (w : World) : Calls Try.prog 22 #[.int .i64 i] w fun e w' => e = .returned (.agg ((([0, 0, 0, 0] ++ pck_be8 i : List UInt8)).map bval).toArray) ∧ Below w.heap.size w w' := by
  obtain ⟨i0, hi, hz0, hz1, hz2⟩ := info_parts Try.info5
  have HI0 := Lib.hid hi
  have HZ0 := Lib.hid hz0
  have HZ1 := Lib.hid hz1
  have HZ2 := Lib.hid hz2
  clear hi hz0 hz1 hz2
  have HZ := Lib.hid (Blk.made w (z12.map bval) 44)
  have HEA := Lib.hid (Ext.alloc w (.cells (z12.map bval).toArray 44))
  go_enter Try.func22, Try.ntmps22
  go_upto_region 1 with (fail)
  change Code.wp _ _ _ _ (w.alloc (.cells (z12.map bval).toArray 44))
  generalize w.alloc (.cells (z12.map bval).toArray 44) = wa at *
  obtain ⟨R, hR⟩ : ∃ R, R = w.heap.size := ⟨_, rfl⟩
  rw [← hR] at HZ ⊢
  have HO : Hid (w.heap.size ≤ R) := Lib.hid (by omega)
  have HE : Hid (Ext w wa) := HEA
  clear hR HEA
  have hmk : (Instr.makeSlice 22 (.int .i64 4) (.int .i64 4)).run Try.prog wa = .ok (.slice (some ⟨wa.heap.size, 0, none⟩) 4 4) (wa.alloc (.cells ((zB 4).map bval).toArray 5)) := run_make_zeros wa _ _ Try.underlying22 i0 HI0.out HZ0.out HZ1.out HZ2.out 4 (by omega)
  have e1 := Ext.alloc wa (.cells ((zB 4).map bval).toArray 5)
  have r1 : Row1 (wa.alloc (.cells ((zB 4).map bval).toArray 5)) (.slice (some ⟨wa.heap.size, 0, none⟩) 4 4) ((zB 4).map bval) := Row1.made _ _ _ _ _ _ rfl rfl rfl (by unfold maxLen; omega)
  have HX := Lib.hid (show Ext wa _ from e1)
  have HR1 := Lib.hid r1
  clear e1 r1
  have e2 := Ext.alloc (wa.alloc (.cells ((zB 4).map bval).toArray 5)) (.cells #[.int .i64 i] 3)
  have r2 : Row1 ((wa.alloc (.cells ((zB 4).map bval).toArray 5)).alloc (.cells #[.int .i64 i] 3)) (.slice (some ⟨(wa.alloc (.cells ((zB 4).map bval).toArray 5)).heap.size, 0, none⟩) 1 1) (([i] : List Int).map (.int .i64)) := Row1.made _ #[.int .i64 i] 3 _ 1 _ rfl rfl rfl (by unfold maxLen; omega)
  have HC := Lib.hid (pint_own (bl := zB 4) (ns := [i]) _ (HR1.out.below e2) r2 (by simp [zB]))
  rw [show (wa.alloc (.cells ((zB 4).map bval).toArray 5)).heap.size = wa.heap.size + 1 by simp] at HC
  have HX := Lib.hid (HX.out.trans e2)
  clear r2 e2 HR1
  go_wp2_with fail
  refine HC.out.mono ?_
  rintro e w1 ⟨x, rfl, ho, hb⟩
  obtain ⟨b1, cap, cur, rfl, hbg, hbk, hcl, hcm, hcu, hnl⟩ := own_form ho (by simp [zB])
  have hrow := Row1.of_own ho
  rw [show ((zB 4 ++ be8s [i] : List UInt8)) = [0, 0, 0, 0] ++ pck_be8 i by simp [zB, be8s, List.replicate]] at hrow
  rw [show (zB 4).length + 8 * ([i] : List Int).length = 12 from rfl] at hrow ⊢
  have HE1 := Lib.hid (HE.out.trans (HX.out.trans hb))
  have HZ1' := Lib.hid (ext_blk HZ.out (HX.out.trans hb))
  obtain ⟨b2, o2, hb2, hrg⟩ := row_range hrow (by simp)
  obtain ⟨rfl, rfl⟩ : b1 = b2 ∧ 0 = o2 := by injection hb2 with h; injection h with h1 h2 h3; exact ⟨h1, h2⟩
  have HRG := Lib.hid hrg
  have hat := run_array_at (P := Try.prog) Try.underlying44 (some ⟨b1, 0, none⟩) 12 cap (Nat.le_refl _) w1
  have HLN : Hid (([0, 0, 0, 0] ++ pck_be8 i : List UInt8).length = 12) := Lib.hid rfl
  have HIN := Lib.hid (nonce_size HLN.out)
  clear ho hb hbg hbk hcl hcm hcu hnl hrow hrg HC HX HE HZ hmk
  go_wp2_with (first | (refine wpList_load_mid rfl _ _ rfl b1 0 rfl _ _ HRG.out Try.underlying44 rfl HIN.out ?_) | (refine wpList_store_blk rfl _ _ _ rfl R ((([0, 0, 0, 0] ++ pck_be8 i : List UInt8)).map bval) rfl rfl _ _ HZ1'.out (by rw [List.length_map, List.length_map, HLN.out, z12_length]) HIN.out (bval_one _) ?_; intro w9 hb9 hg9))
  refine bodyPost_ret (result_blk rfl _ R _ _ _ _ rfl hb9 Try.underlying44 HIN.out) rfl ?_
  exact ⟨rfl, ext_grown HE1.out hg9 HO.out⟩

end Go.Proofs.Ytjnnhkodkbhbbaa

/- The walks of package image's own Seal and Open. Laid by wip/gen/gimgc1.py. Each theorem names its own conditions. -/
namespace Go.Proofs.Ytjnnhkodkbhbbaa
open Go.RowKit
set_option linter.unusedVariables false
set_option linter.unusedSimpArgs false

set_option maxRecDepth 100000 in
set_option maxHeartbeats 8000000 in
theorem iSeal_bad (key : List UInt8) (ver i : Int) (p : List UInt8) (pv : Value) (w : World) (hk : key.length = 32) (hp : Row1 w pv (p.map bval)) (hn : imgB ver i p.length 64 = false) :
    Calls Try.prog 17 #[.agg (key.map bval).toArray, .int .i64 ver, .int .i64 i, pv] w fun e w' => e = .returned (.tuple #[.slice none 0 0, .int .i64 1]) ∧ Below w.heap.size w w' := by
  obtain ⟨a, cap, hpv, -⟩ := id hp
  rw [List.length_map] at hpv
  obtain ⟨pn, hpn⟩ : ∃ n, n = p.length := ⟨_, rfl⟩
  rw [← hpn] at hpv hn
  subst hpv
  rw [plcB_img] at hn
  have HN := Lib.hid hn
  clear hn hpn hp hk
  have HE0 := Lib.hid (Ext.alloc w (.cells (key.map bval).toArray 34))
  go_enter Try.func17, Try.ntmps17
  go_upto_region 1 with (fail)
  change Code.wp _ _ _ _ (w.alloc (.cells (key.map bval).toArray 34))
  generalize w.alloc (.cells (key.map bval).toArray 34) = wa at *
  have HE : Hid (Ext w wa) := HE0
  clear HE0
  cases hs : plcB ver i with
  | false =>
    have HS := Lib.hid hs
    clear hs
    go_wp2_with fail
    refine (iplc_q ver i false wa HS.out).mono ?_
    rintro e w3 ⟨rfl, rfl⟩
    go_wp2_with fail
    refine bodyPost_ret (res_twoP rfl _ _) rfl ?_
    exact ⟨rfl, HE.out⟩
  | true =>
    have HS := Lib.hid hs
    clear hs
    have h3 : pn ≠ 64 := fun e => by
      have h := HN.out
      rw [HS.out, e] at h
      exact absurd h (by decide)
    have h4 : ((pn : Int) != 64) = true := by simp; omega
    go_wp2_with fail
    refine (iplc_q ver i true wa HS.out).mono ?_
    rintro e w3 ⟨rfl, rfl⟩
    go_wp2_with fail
    refine bodyPost_ret (res_twoP rfl _ _) rfl ?_
    exact ⟨rfl, HE.out⟩
set_option maxRecDepth 100000 in
set_option maxHeartbeats 8000000 in
theorem iSeal_good (key : List UInt8) (ver : Int) (i : Nat) (p : List UInt8) (pv : Value) (w : World) (hk : key.length = 32) (hv : plcB ver i = true) (hp : Row1 w pv (p.map bval)) (hl : p.length = 64) :
    Calls Try.prog 17 #[.agg (key.map bval).toArray, .int .i64 ver, .int .i64 (i : Int), pv] w fun e w' => ∃ x, e = .returned (.tuple #[x, .int .i64 0]) ∧ w'.ownsRow w.heap.size 5 1 x 80 ((blkS key ver i p).map bval) ∧ Below w.heap.size w w' := by
  obtain ⟨a, cap, hpv, -⟩ := id hp
  rw [List.length_map] at hpv
  obtain ⟨pn, hpn⟩ : ∃ n, n = p.length := ⟨_, rfl⟩
  rw [← hpn] at hpv
  subst hpv
  have HKL := Lib.hid hk
  have HCL := Lib.hid hl
  have HIK := Lib.hid (num_size hk)
  have HP0 := Lib.hid hp
  have HV := Lib.hid hv
  have HB := Lib.hid (And.intro (Blk.made w (key.map bval) 34) (Ext.alloc w (.cells (key.map bval).toArray 34)))
  go_enter Try.func17, Try.ntmps17
  go_upto_region 1 with (fail)
  obtain ⟨h0, hE⟩ := HB.out
  change Code.wp _ _ _ _ (w.alloc (.cells (key.map bval).toArray 34))
  generalize w.alloc (.cells (key.map bval).toArray 34) = wa at *
  obtain ⟨A, hA⟩ : ∃ X, X = w.heap.size := ⟨_, rfl⟩
  rw [← hA] at h0 ⊢
  have HA0 := Lib.hid h0
  have HE : Hid (Ext w wa) := Lib.hid hE
  have HO : Hid (w.heap.size = A) := Lib.hid (by omega)
  clear HB hE h0 hA
  have HC := Lib.hid (HP0.out.below HE.out)
  have hpn2 : pn = 64 := by omega
  subst hpn2
  clear hpn hk hp hl hv HP0
  go_wp2_with fail
  refine (iplc_q ver i true wa HV.out).mono ?_
  rintro e w3 ⟨rfl, rfl⟩
  go_upto_region 3 with (fail)
  generalize hpv : Value.slice a 64 cap = pv at *
  clear hpv
  have B0 : Ext wa wa.drew := Ext.drew _
  refine wp_region_held_drew (S := fun w' => Ext wa w') (by kernel_rfl) B0 (fun hHeld => ?_)
  refine wpAnyH_take (i := 0) (v := .agg ((key).map bval).toArray) rfl (by kernel_rfl) (by kernel_rfl) (by kernel_rfl) (fun _ _ _ h => h) (yieldsIf_load_mid (by rfl) _ _ rfl A 0 rfl _ _ (fun w h => bl_range HA0.out h) Try.underlying34 rfl HIK.out) hHeld ?_
  simp only [Act.put, List.getElem_toArray, List.getElem_cons_zero, List.getElem_cons_succ, List.setIfInBounds_toArray, List.set_cons_zero, List.set_cons_succ]
  refine wpAnyH_take (i := 1) (v := .int .i64 (i : Int)) rfl (by kernel_rfl) (by kernel_rfl) (by kernel_rfl) (fun _ _ _ h => h) (yi_move _ (.int .i64 (i : Int)) (by rfl) rfl rfl) hHeld ?_
  simp only [Act.put, List.getElem_toArray, List.getElem_cons_zero, List.getElem_cons_succ, List.setIfInBounds_toArray, List.set_cons_zero, List.set_cons_succ]
  refine wpAnyH_take (i := 3) (v := pv) rfl (by kernel_rfl) (by kernel_rfl) (by kernel_rfl) (fun _ _ _ h => h) (yi_move _ (pv) (by rfl) rfl rfl) hHeld ?_
  simp only [Act.put, List.getElem_toArray, List.getElem_cons_zero, List.getElem_cons_succ, List.setIfInBounds_toArray, List.set_cons_zero, List.set_cons_succ]
  refine wpAnyH_take (i := 4) (v := .int .i64 ver) rfl (by kernel_rfl) (by kernel_rfl) (by kernel_rfl) (fun _ _ _ h => h) (yi_move _ (.int .i64 ver) (by rfl) rfl rfl) hHeld ?_
  simp only [Act.put, List.getElem_toArray, List.getElem_cons_zero, List.getElem_cons_succ, List.setIfInBounds_toArray, List.set_cons_zero, List.set_cons_succ]
  refine wpAnyH_ready (rs := [2]) (by kernel_rfl) (by simp) (AllReadyH.cons rfl (fun K hK => ?_) AllReadyH.nil)
  have hn := inon_any (i : Int) wa.drew
  rw [nonB_is] at hn
  go_simp
  refine hn.mono ?_
  rintro e m1 ⟨rfl, b1⟩
  clear hn
  have N1 : Ext wa m1 := B0.trans b1
  refine hK.out _ _ N1 (fun hHeld => ?_)
  clear hK K
  try simp only [Act.put, List.getElem_toArray, List.getElem_cons_zero, List.getElem_cons_succ, List.setIfInBounds_toArray, List.set_cons_zero, List.set_cons_succ]
  refine wpAnyH_ready (rs := [5]) (by kernel_rfl) (by simp) (AllReadyH.cons rfl (fun K hK => ?_) AllReadyH.nil)
  go_simp
  refine (ibes_any ver m1).mono ?_
  rintro e m2 ⟨x2, rfl, o2, b2⟩
  have r2 : Row1 m2 x2 ((pck_be8 ver).map bval) := Row1.of_own o2
  have N2 : Ext wa m2 := N1.trans b2
  refine hK.out _ _ N2 (fun hHeld => ?_)
  clear hK K
  try simp only [Act.put, List.getElem_toArray, List.getElem_cons_zero, List.getElem_cons_succ, List.setIfInBounds_toArray, List.set_cons_zero, List.set_cons_succ]
  refine wpAnyH_ready (rs := [6]) (by kernel_rfl) (by simp) (AllReadyH.cons rfl (fun K hK => ?_) AllReadyH.nil)
  go_simp
  refine (ASeal_num key (nonB i) p (pck_be8 ver) pv x2 m2 HKL.out (nonB_length i) (HC.out.below N2) r2 (by rw [HCL.out]; decide) (by rw [be8_length]; decide)).mono ?_
  rintro e m3 ⟨x3, rfl, o3, b3⟩
  rw [blkS_is, HCL.out] at o3
  have r2 := r2.below b3
  have HX1 := Lib.hid (own_mono o3 (HE.out.trans N2).size)
  clear o3
  have N3 : Ext wa m3 := N2.trans b3
  refine hK.out _ _ N3 (fun hHeld => ?_)
  clear hK K
  try simp only [Act.put, List.getElem_toArray, List.getElem_cons_zero, List.getElem_cons_succ, List.setIfInBounds_toArray, List.set_cons_zero, List.set_cons_succ]
  refine wpAnyH_take (i := 7) (v := x3) rfl (by kernel_rfl) (by kernel_rfl) (by kernel_rfl) (fun _ _ _ h => h) (yi_assign _ (x3) (by rfl) rfl rfl) hHeld ?_
  simp only [Act.put, List.getElem_toArray, List.getElem_cons_zero, List.getElem_cons_succ, List.setIfInBounds_toArray, List.set_cons_zero, List.set_cons_succ]
  refine wpAnyH_ready (rs := [8]) (by kernel_rfl) (by simp) (AllReadyH.cons rfl (fun K hK => ?_) AllReadyH.nil)
  go_simp
  refine hK.out _ _ N3 (fun hHeld => ?_)
  clear hK K
  try simp only [Act.put, List.getElem_toArray, List.getElem_cons_zero, List.getElem_cons_succ, List.setIfInBounds_toArray, List.set_cons_zero, List.set_cons_succ]
  refine wpAnyH_done (by kernel_rfl) ?_ _
  have HX := Lib.hid N3
  generalize m3 = w2 at HX HX1 ⊢
  generalize x3 = x at HX1 ⊢
  go_wp2_with fail
  refine bodyPost_ret (res_twoP rfl _ _) rfl ?_
  exact ⟨_, rfl, HX1.out, HE.out.trans HX.out⟩
theorem iSeal_any (key : List UInt8) (ver i : Int) (p : List UInt8) (pv : Value) (w : World) (hk : key.length = 32) (hp : Row1 w pv (p.map bval)) :
    Calls Try.prog 17 #[.agg (key.map bval).toArray, .int .i64 ver, .int .i64 i, pv] w fun e w' => ∃ x, e = .returned (.tuple #[x, .int .i64 (selE ver i p.length 64)]) ∧ w'.ownsRow w.heap.size 5 1 x (selL key ver i p).length ((selL key ver i p).map bval) ∧ Below w.heap.size w w' := by
  cases h : imgB ver i p.length 64 with
  | true =>
    have e1 : selE ver i p.length 64 = 0 := if_pos h
    have e2 : selL key ver i p = blkS key ver i.toNat p := if_pos h
    obtain ⟨h1, h2, h3, h4⟩ := imgB_all h
    obtain ⟨n, rfl⟩ : ∃ n : Nat, i = n := ⟨i.toNat, by omega⟩
    rw [plcB_img, Bool.and_eq_true] at h
    rw [e1, e2, blkS_length h4]
    exact iSeal_good key ver n p pv w hk h.1 hp h4
  | false =>
    have e1 : selE ver i p.length 64 = 1 := if_neg (by rw [h]; decide)
    have e2 : selL key ver i p = [] := if_neg (by rw [h]; decide)
    rw [e1, e2]
    refine (iSeal_bad key ver i p pv w hk hp h).mono ?_
    rintro e w' ⟨rfl, g⟩
    exact ⟨_, rfl, World.ownsRow_nil _ _ _ _, g⟩
set_option maxRecDepth 100000 in
set_option maxHeartbeats 8000000 in
theorem iOpen_bad (key : List UInt8) (ver i : Int) (p : List UInt8) (pv : Value) (w : World) (hk : key.length = 32) (hp : Row1 w pv (p.map bval)) (hn : imgB ver i p.length 80 = false) :
    Calls Try.prog 15 #[.agg (key.map bval).toArray, .int .i64 ver, .int .i64 i, pv] w fun e w' => e = .returned (.tuple #[.slice none 0 0, .int .i64 1]) ∧ Below w.heap.size w w' := by
  obtain ⟨a, cap, hpv, -⟩ := id hp
  rw [List.length_map] at hpv
  obtain ⟨pn, hpn⟩ : ∃ n, n = p.length := ⟨_, rfl⟩
  rw [← hpn] at hpv hn
  subst hpv
  rw [plcB_img] at hn
  have HN := Lib.hid hn
  clear hn hpn hp hk
  have HE0 := Lib.hid (Ext.alloc w (.cells (key.map bval).toArray 34))
  go_enter Try.func15, Try.ntmps15
  go_upto_region 1 with (fail)
  change Code.wp _ _ _ _ (w.alloc (.cells (key.map bval).toArray 34))
  generalize w.alloc (.cells (key.map bval).toArray 34) = wa at *
  have HE : Hid (Ext w wa) := HE0
  clear HE0
  cases hs : plcB ver i with
  | false =>
    have HS := Lib.hid hs
    clear hs
    go_wp2_with fail
    refine (iplc_q ver i false wa HS.out).mono ?_
    rintro e w3 ⟨rfl, rfl⟩
    go_wp2_with fail
    refine bodyPost_ret (res_twoP rfl _ _) rfl ?_
    exact ⟨rfl, HE.out⟩
  | true =>
    have HS := Lib.hid hs
    clear hs
    have h3 : pn ≠ 80 := fun e => by
      have h := HN.out
      rw [HS.out, e] at h
      exact absurd h (by decide)
    have h4 : ((pn : Int) != 80) = true := by simp; omega
    go_wp2_with fail
    refine (iplc_q ver i true wa HS.out).mono ?_
    rintro e w3 ⟨rfl, rfl⟩
    go_wp2_with fail
    refine bodyPost_ret (res_twoP rfl _ _) rfl ?_
    exact ⟨rfl, HE.out⟩
set_option maxRecDepth 100000 in
set_option maxHeartbeats 8000000 in
theorem iOpen_good (key : List UInt8) (ver : Int) (i : Nat) (c : List UInt8) (cv : Value) (w : World) (hk : key.length = 32) (hv : plcB ver i = true) (hp : Row1 w cv (c.map bval)) (hl : c.length = 80) :
    Calls Try.prog 15 #[.agg (key.map bval).toArray, .int .i64 ver, .int .i64 (i : Int), cv] w fun e w' => ∃ x, e = .returned (.tuple #[x, .int .i64 (aErr (openB key (nonB i) c (pck_be8 ver)))]) ∧ Row1 w' x (((openB key (nonB i) c (pck_be8 ver)).getD []).map bval) ∧ Below w.heap.size w w' := by
  obtain ⟨a, cap, hpv, -⟩ := id hp
  rw [List.length_map] at hpv
  obtain ⟨pn, hpn⟩ : ∃ n, n = c.length := ⟨_, rfl⟩
  rw [← hpn] at hpv
  subst hpv
  have HKL := Lib.hid hk
  have HCL := Lib.hid hl
  have HIK := Lib.hid (num_size hk)
  have HP0 := Lib.hid hp
  have HV := Lib.hid hv
  have HB := Lib.hid (And.intro (Blk.made w (key.map bval) 34) (Ext.alloc w (.cells (key.map bval).toArray 34)))
  go_enter Try.func15, Try.ntmps15
  go_upto_region 1 with (fail)
  obtain ⟨h0, hE⟩ := HB.out
  change Code.wp _ _ _ _ (w.alloc (.cells (key.map bval).toArray 34))
  generalize w.alloc (.cells (key.map bval).toArray 34) = wa at *
  obtain ⟨A, hA⟩ : ∃ X, X = w.heap.size := ⟨_, rfl⟩
  rw [← hA] at h0 ⊢
  have HA0 := Lib.hid h0
  have HE : Hid (Ext w wa) := Lib.hid hE
  have HO : Hid (w.heap.size = A) := Lib.hid (by omega)
  clear HB hE h0 hA
  have HC := Lib.hid (HP0.out.below HE.out)
  have hpn2 : pn = 80 := by omega
  subst hpn2
  clear hpn hk hp hl hv HP0
  go_wp2_with fail
  refine (iplc_q ver i true wa HV.out).mono ?_
  rintro e w3 ⟨rfl, rfl⟩
  go_upto_region 3 with (fail)
  generalize hpv : Value.slice a 80 cap = cv at *
  clear hpv
  have B0 : Ext wa wa.drew := Ext.drew _
  refine wp_region_held_drew (S := fun w' => Ext wa w') (by kernel_rfl) B0 (fun hHeld => ?_)
  refine wpAnyH_take (i := 0) (v := .agg ((key).map bval).toArray) rfl (by kernel_rfl) (by kernel_rfl) (by kernel_rfl) (fun _ _ _ h => h) (yieldsIf_load_mid (by rfl) _ _ rfl A 0 rfl _ _ (fun w h => bl_range HA0.out h) Try.underlying34 rfl HIK.out) hHeld ?_
  simp only [Act.put, List.getElem_toArray, List.getElem_cons_zero, List.getElem_cons_succ, List.setIfInBounds_toArray, List.set_cons_zero, List.set_cons_succ]
  refine wpAnyH_take (i := 1) (v := .int .i64 (i : Int)) rfl (by kernel_rfl) (by kernel_rfl) (by kernel_rfl) (fun _ _ _ h => h) (yi_move _ (.int .i64 (i : Int)) (by rfl) rfl rfl) hHeld ?_
  simp only [Act.put, List.getElem_toArray, List.getElem_cons_zero, List.getElem_cons_succ, List.setIfInBounds_toArray, List.set_cons_zero, List.set_cons_succ]
  refine wpAnyH_take (i := 3) (v := cv) rfl (by kernel_rfl) (by kernel_rfl) (by kernel_rfl) (fun _ _ _ h => h) (yi_move _ (cv) (by rfl) rfl rfl) hHeld ?_
  simp only [Act.put, List.getElem_toArray, List.getElem_cons_zero, List.getElem_cons_succ, List.setIfInBounds_toArray, List.set_cons_zero, List.set_cons_succ]
  refine wpAnyH_take (i := 4) (v := .int .i64 ver) rfl (by kernel_rfl) (by kernel_rfl) (by kernel_rfl) (fun _ _ _ h => h) (yi_move _ (.int .i64 ver) (by rfl) rfl rfl) hHeld ?_
  simp only [Act.put, List.getElem_toArray, List.getElem_cons_zero, List.getElem_cons_succ, List.setIfInBounds_toArray, List.set_cons_zero, List.set_cons_succ]
  refine wpAnyH_ready (rs := [2]) (by kernel_rfl) (by simp) (AllReadyH.cons rfl (fun K hK => ?_) AllReadyH.nil)
  have hn := inon_any (i : Int) wa.drew
  rw [nonB_is] at hn
  go_simp
  refine hn.mono ?_
  rintro e m1 ⟨rfl, b1⟩
  clear hn
  have N1 : Ext wa m1 := B0.trans b1
  refine hK.out _ _ N1 (fun hHeld => ?_)
  clear hK K
  try simp only [Act.put, List.getElem_toArray, List.getElem_cons_zero, List.getElem_cons_succ, List.setIfInBounds_toArray, List.set_cons_zero, List.set_cons_succ]
  refine wpAnyH_ready (rs := [5]) (by kernel_rfl) (by simp) (AllReadyH.cons rfl (fun K hK => ?_) AllReadyH.nil)
  go_simp
  refine (ibes_any ver m1).mono ?_
  rintro e m2 ⟨x2, rfl, o2, b2⟩
  have r2 : Row1 m2 x2 ((pck_be8 ver).map bval) := Row1.of_own o2
  have N2 : Ext wa m2 := N1.trans b2
  refine hK.out _ _ N2 (fun hHeld => ?_)
  clear hK K
  try simp only [Act.put, List.getElem_toArray, List.getElem_cons_zero, List.getElem_cons_succ, List.setIfInBounds_toArray, List.set_cons_zero, List.set_cons_succ]
  refine wpAnyH_ready (rs := [6]) (by kernel_rfl) (by simp) (AllReadyH.cons rfl (fun K hK => ?_) AllReadyH.nil)
  go_simp
  refine (AOpen_num key (nonB i) c (pck_be8 ver) cv x2 m2 HKL.out (nonB_length i) (HC.out.below N2) r2 (by rw [HCL.out]; decide) (by rw [be8_length]; decide)).mono ?_
  rintro e m3 ⟨x3, rfl, r3, b3⟩
  have r2 := r2.below b3
  have HX1 := Lib.hid r3
  clear r3
  have N3 : Ext wa m3 := N2.trans b3
  refine hK.out _ _ N3 (fun hHeld => ?_)
  clear hK K
  try simp only [Act.put, List.getElem_toArray, List.getElem_cons_zero, List.getElem_cons_succ, List.setIfInBounds_toArray, List.set_cons_zero, List.set_cons_succ]
  refine wpAnyH_take (i := 7) (v := x3) rfl (by kernel_rfl) (by kernel_rfl) (by kernel_rfl) (fun _ _ _ h => h) (yi_val (x3) (by rfl) (fun w _ => by go_simp)) hHeld ?_
  simp only [Act.put, List.getElem_toArray, List.getElem_cons_zero, List.getElem_cons_succ, List.setIfInBounds_toArray, List.set_cons_zero, List.set_cons_succ]
  refine wpAnyH_take (i := 8) (v := .int .i64 (aErr (openB key (nonB i) c (pck_be8 ver)))) rfl (by kernel_rfl) (by kernel_rfl) (by kernel_rfl) (fun _ _ _ h => h) (yi_val (.int .i64 (aErr (openB key (nonB i) c (pck_be8 ver)))) (by rfl) (fun w _ => by go_simp)) hHeld ?_
  simp only [Act.put, List.getElem_toArray, List.getElem_cons_zero, List.getElem_cons_succ, List.setIfInBounds_toArray, List.set_cons_zero, List.set_cons_succ]
  refine wpAnyH_take (i := 9) (v := x3) rfl (by kernel_rfl) (by kernel_rfl) (by kernel_rfl) (fun _ _ _ h => h) (yi_assign _ (x3) (by rfl) rfl rfl) hHeld ?_
  simp only [Act.put, List.getElem_toArray, List.getElem_cons_zero, List.getElem_cons_succ, List.setIfInBounds_toArray, List.set_cons_zero, List.set_cons_succ]
  refine wpAnyH_ready (rs := [10]) (by kernel_rfl) (by simp) (AllReadyH.cons rfl (fun K hK => ?_) AllReadyH.nil)
  go_simp
  refine hK.out _ _ N3 (fun hHeld => ?_)
  clear hK K
  try simp only [Act.put, List.getElem_toArray, List.getElem_cons_zero, List.getElem_cons_succ, List.setIfInBounds_toArray, List.set_cons_zero, List.set_cons_succ]
  refine wpAnyH_done (by kernel_rfl) ?_ _
  have HX := Lib.hid N3
  generalize m3 = w2 at HX HX1 ⊢
  generalize x3 = x at HX1 ⊢
  go_wp2_with fail
  refine bodyPost_ret (res_twoP rfl _ _) rfl ?_
  exact ⟨_, rfl, HX1.out, HE.out.trans HX.out⟩
theorem iOpen_any (key : List UInt8) (ver i : Int) (c : List UInt8) (cv : Value) (w : World) (hk : key.length = 32) (hp : Row1 w cv (c.map bval)) :
    Calls Try.prog 15 #[.agg (key.map bval).toArray, .int .i64 ver, .int .i64 i, cv] w fun e w' => ∃ x, e = .returned (.tuple #[x, .int .i64 (opnE key ver i c)]) ∧ Row1 w' x ((opnL key ver i c).map bval) ∧ Below w.heap.size w w' := by
  cases h : imgB ver i c.length 80 with
  | true =>
    obtain ⟨e1, e2⟩ := opn_in (key := key) h
    obtain ⟨h1, h2, h3, h4⟩ := imgB_all h
    obtain ⟨n, rfl⟩ : ∃ n : Nat, i = n := ⟨i.toNat, by omega⟩
    rw [plcB_img, Bool.and_eq_true] at h
    rw [e1, e2]
    refine (iOpen_good key ver n c cv w hk h.1 hp h4).mono ?_
    rintro e w' ⟨x, rfl, r, g⟩
    refine ⟨x, ?_, r, g⟩
    unfold opnO aErr
    rw [Int.toNat_natCast]
  | false =>
    obtain ⟨e1, e2⟩ := opn_out (key := key) h
    rw [e1, e2]
    refine (iOpen_bad key ver i c cv w hk hp h).mono ?_
    rintro e w' ⟨rfl, g⟩
    exact ⟨_, rfl, Row1.nil _, g⟩

end Go.Proofs.Ytjnnhkodkbhbbaa

/- The walk of package image's own Cut. Each theorem names its own conditions. -/
namespace Go.Proofs.Ytjnnhkodkbhbbaa
open Go.RowKit
set_option linter.unusedVariables false
set_option linter.unusedSimpArgs false

/-- make of slices of nothing: what it answers, and the world. -/
theorem run_make_nils {P : Program} (w : World) (t e : TypeId) (ht : P.underlying t = some (.slice e)) (i : TypeInfo) (hi : P.info? e = some i) (hz : i.zero = some (.slice none 0 0)) (h1 : i.size = 1) (hb : i.bytes = 24) (m : Nat) (hm : m ≤ 1000000000) :
    (Instr.makeSlice t (.int .i64 (m : Int)) (.int .i64 (m : Int))).run P w = .ok (.slice (some ⟨w.heap.size, 0, none⟩) m m) (w.alloc (.cells (List.replicate m (Value.slice none 0 0)).toArray e)) := by
  have hmk := run_make w t e i (.slice none 0 0) ht hi hz .i64 .i64 (m : Int) (m : Int) (by omega) (by omega) (by rw [hb]; omega) (by omega)
  have hmc : madeCells (Value.cells (.slice none 0 0)) (m * 1) = (List.replicate m (Value.slice none 0 0)).toArray := by
    apply Array.ext'
    unfold madeCells
    rw [Array.toList_map]
    apply List.ext_getElem
    · simp
    · intro i h1 h2
      simp [Nat.mod_one, Value.cells]
  rw [Int.toNat_natCast, h1, hmc] at hmk
  rw [hmk]
/-- An image's blocks in memory, the first k of them. -/
def CutSt (w : World) (L n k : Nat) (b : List UInt8) (cells : List Value) : Prop :=
  Blk w L cells 22 ∧ cells.length = n ∧ ∀ j, j < k → ∃ X, cells[j]? = some (.slice (some ⟨X, 0, none⟩) 64 64) ∧ L < X ∧ Blk w X ((cutAt b j).map bval) 5

set_option maxRecDepth 100000 in
set_option maxHeartbeats 8000000 in
theorem iCut_str1 (b : List UInt8) (bv : Value) (w : World) (hb : Row1 w bv (b.map bval)) (hle : b.length ≤ 2048) (h0 : b.length ≤ 64) (q : Nat) (hqq : q = (b.length + 63) / 64) :
    Calls Try.prog 9 #[bv] w fun e w' => ∃ L cells, e = .returned (.tuple #[.slice (some ⟨L, 0, none⟩) 1 1, .int .i64 0]) ∧ w.heap.size ≤ L ∧ CutSt w' L 1 1 b cells ∧ Ext w w' := by
  obtain ⟨i0, hi, hz0, hz1, hz2⟩ := info_parts Try.info5
  have HI0 := Lib.hid hi
  have HZ0 := Lib.hid hz0
  have HZ1 := Lib.hid hz1
  have HZ2 := Lib.hid hz2
  clear hi hz0 hz1 hz2
  obtain ⟨iq, hq0, hq1, hq2, hq3⟩ := rows_info
  obtain ⟨ab, cb, hbv, -⟩ := id hb
  rw [List.length_map] at hbv
  subst hbv
  have HR := Lib.hid hb
  have HLE := Lib.hid hle
  have HN32 : Hid (1 ≤ 32) := Lib.hid (by omega)
  have HQN : Hid (64 * 1 < b.length + 64 ∨ 1 = 1) := Lib.hid (by omega)
  have hmk : (Instr.makeSlice 24 (.int .i64 1) (.int .i64 1)).run Try.prog w = .ok (.slice (some ⟨w.heap.size, 0, none⟩) 1 1) (w.alloc (.cells (List.replicate 1 (Value.slice none 0 0)).toArray 22)) := run_make_nils w 24 22 Try.underlying24 iq hq0 hq1 hq2 hq3 1 (by omega)
  have HB := Lib.hid (Blk.made w (List.replicate 1 (Value.slice none 0 0)) 22)
  have HE := Lib.hid (Ext.alloc w (.cells (List.replicate 1 (Value.slice none 0 0)).toArray 22))
  obtain ⟨cs0, hcs0⟩ : ∃ l, l = List.replicate 1 (Value.slice none 0 0) := ⟨_, rfl⟩
  rw [← hcs0] at hmk HB HE
  have HC0 : Hid (cs0.length = 1) := Lib.hid (by rw [hcs0, List.length_replicate])
  clear hcs0
  have hx1 : IntKind.i64.wrap ((b.length : Int) + 64) = (b.length : Int) + 64 := by rw [IntKind.wrap_i64]; omega
  have hx2 : (b.length : Int) + 64 - 1 ≤ 9223372036854775807 := by omega
  have hx3 : ((b.length : Int) + 64 - 1).tdiv 64 = (q : Int) := by rw [Int.tdiv_eq_ediv_of_nonneg (by omega)]; omega
  have hx4 : (q : Int) ≤ 9223372036854775807 := by omega
  have hx5 : -9223372036854775808 ≤ (q : Int) := by omega
  have hx6 : (q : Int) ≤ 1 := by omega
  have d0 : decide ((2048 : Int) < (b.length : Int)) = false := decide_eq_false (by omega)
  have HQQ := Lib.hid hqq
  clear hqq
  clear hb hle hq0 hq1 hq2 hq3
  go_enter Try.func9, Try.ntmps9
  go_upto_region 4 with (fail)
  obtain ⟨L, hL⟩ : ∃ L, L = w.heap.size := ⟨_, rfl⟩
  generalize w.alloc (.cells cs0.toArray 22) = w0 at *
  rw [← hL] at HB ⊢
  have HLL : Hid (w.heap.size ≤ L) := Lib.hid (by omega)
  clear hL hmk hx1 hx2 hx3 hx4 hx5 hx6 d0
  go_wp2_with fail
  go_loopw [18] (fun i wr => ∃ k : Nat, k ≤ 1 ∧ i = .int .i64 (k : Int) ∧ (∃ cells, CutSt wr L 1 k b cells) ∧ Ext w wr) (fun i _ => 40 - (intOf i).toNat)
  case atStart => exact ⟨0, Nat.zero_le _, rfl, ⟨_, HB.out, HC0.out, fun j h => absurd h (Nat.not_lt_zero _)⟩, HE.out⟩
  case round =>
    obtain ⟨k, hk, rfl, ⟨cells, hLB, hcl, hX⟩, hE⟩ := hrel
    have HK := Lib.hid hk
    have HLB := Lib.hid hLB
    have HCLN := Lib.hid hcl
    have HX := Lib.hid hX
    have HE1 := Lib.hid hE
    clear hk hLB hcl hX hE
    by_cases hlt : k < 1
    · have HLT := Lib.hid hlt
      have hlt2 : (k : Int) < 1 := by omega
      have k0 : (0 : Int) ≤ (k : Int) := Int.natCast_nonneg _
      obtain ⟨ck, hck⟩ : ∃ x, cells[k]? = some x := ⟨_, List.getElem?_eq_getElem (by rw [HCLN.out]; exact hlt)⟩
      have hmk2 : (Instr.makeSlice 22 (.int .i64 64) (.int .i64 64)).run Try.prog wr = .ok (.slice (some ⟨wr.heap.size, 0, none⟩) 64 64) (wr.alloc (.cells ((zB 64).map bval).toArray 5)) := run_make_zeros wr _ _ Try.underlying22 i0 HI0.out HZ0.out HZ1.out HZ2.out 64 (by omega)
      have hc1 : (wr.alloc (.cells ((zB 64).map bval).toArray 5)).cell? ⟨L, k, none⟩ = some ck := ((HLB.out.alloc _).cell k).trans hck
      have hf1 : (wr.alloc (.cells ((zB 64).map bval).toArray 5)).frozen? ⟨L, k, none⟩ = false := (HLB.out.alloc _).free k
      have HBY := Lib.hid (Blk.made wr ((zB 64).map bval) 5)
      have HYL := Lib.hid HLB.out.lt
      obtain ⟨q2, hq2⟩ : ∃ q2, q2 = 64 * k := ⟨_, rfl⟩
      have hqi : (k : Int) * 64 = (q2 : Int) := by omega
      have hqb : q2 ≤ b.length := by have := HQN.out; omega
      have HWQ : Hid (IntKind.i64.wrap ((q2 : Nat) : Int) = ((q2 : Nat) : Int)) := Lib.hid (by have := HLE.out; rw [IntKind.wrap_i64]; omega)
      have HQ2 := Lib.hid hq2
      obtain ⟨v2, hr2, hc2⟩ := row_cut (P := Try.prog) Try.underlying22 Try.sizeOf5 HR.out q2 (by rw [List.length_map]; exact hqb)
      obtain ⟨a2, c2, hv2, -⟩ := id hr2
      rw [List.length_drop, List.length_map] at hv2
      subst hv2
      rw [← List.map_drop] at hr2
      obtain ⟨L2, hL2⟩ : ∃ X, X = b.length - q2 := ⟨_, rfl⟩
      rw [← hL2] at hr2 hc2
      have HC2 := Lib.hid hc2
      obtain ⟨cs, hcs⟩ : ∃ cs, cs = (b.drop q2).take 64 := ⟨_, rfl⟩
      have HCS : Hid ((cs.map bval).length = Nat.min L2 64) := Lib.hid (by rw [hcs, List.length_map, List.length_take, List.length_drop, hL2]; exact Nat.min_comm _ _)
      have HCE : Hid (cs = (b.drop q2).take cs.length) := Lib.hid (by rw [hcs, List.length_take]; exact (List.take_eq_take_min ..).symm ▸ (by simp))
      have HCL : Hid (cs.length ≤ (b.drop q2).length) := Lib.hid (by rw [hcs, List.length_take]; omega)
      have HFT : Hid (0 + (cs.map bval).length ≤ ((zB 64).map bval).length) := Lib.hid (by rw [hcs, List.length_map, List.length_take, List.length_map, zB_length]; omega)
      have HLY : Hid (splice ((zB 64).map bval) 0 (cs.map bval) = (cutAt b k).map bval) := Lib.hid (by rw [hcs, HQ2.out]; exact cut_lay b k)
      have HR2 := Lib.hid hr2
      have HAL := Lib.hid (Ext.alloc wr (.cells ((zB 64).map bval).toArray 5))
      clear hcs hL2 hq2 hr2 hc2 hlt
      go_upto_region 8 with (fail)
      clear hmk2
      obtain ⟨Y, hY⟩ : ∃ Y, Y = wr.heap.size := ⟨_, rfl⟩
      rw [← hY] at HBY HYL ⊢
      have HLYN : Hid (L < Y) := HYL
      have HL2 := Lib.hid ((HLB.out.alloc (.cells ((zB 64).map bval).toArray 5)).set k (.slice (some ⟨Y, 0, none⟩) 64 64))
      have HY := Lib.hid (HBY.out.far (a := ⟨L, k, none⟩) (by have := HLYN.out; simp; omega) (.slice (some ⟨Y, 0, none⟩) 64 64))
      have hgr := grownBy_set (World.grownBy.refl (wr.alloc (.cells ((zB 64).map bval).toArray 5)) (some L)) k (.slice (some ⟨Y, 0, none⟩) 64 64)
      have HXO : Hid (∀ j, j < k → ∃ X, (cells.set k (.slice (some ⟨Y, 0, none⟩) 64 64))[j]? = some (.slice (some ⟨X, 0, none⟩) 64 64) ∧ L < X ∧ X < Y ∧ Blk ((wr.alloc (.cells ((zB 64).map bval).toArray 5)).setCell ⟨L, k, none⟩ (.slice (some ⟨Y, 0, none⟩) 64 64)) X ((cutAt b j).map bval) 5) := Lib.hid (fun j hj => by
        obtain ⟨X, h1, h2, h3⟩ := HX.out j hj
        refine ⟨X, by rw [List.getElem?_set_ne (by omega)]; exact h1, h2, by rw [hY]; exact h3.lt, (h3.alloc _).far (by simp; omega) _⟩)
      have HCK : Hid ((cells.set k (.slice (some ⟨Y, 0, none⟩) 64 64))[k]? = some (.slice (some ⟨Y, 0, none⟩) 64 64)) := Lib.hid (by rw [List.getElem?_set_self (by rw [HCLN.out]; exact HLT.out)])
      have HLO : Hid (L < wr.heap.size ∧ w.heap.size ≤ L) := Lib.hid ⟨HLB.out.lt, HLL.out⟩
      have HEB : Hid (Ext w ((wr.alloc (.cells ((zB 64).map bval).toArray 5)).setCell ⟨L, k, none⟩ (.slice (some ⟨Y, 0, none⟩) 64 64))) := Lib.hid (ext_grown (HE1.out.trans HAL.out) hgr HLL.out)
      have HR1 := Lib.hid (HR2.out.below HEB.out)
      have HYW : Hid (w.heap.size ≤ Y) := Lib.hid (by have := HLO.out; omega)
      clear hY hc1 hf1 hgr HBY HX HAL HLB HYL HR2 HLO
      generalize (wr.alloc (.cells ((zB 64).map bval).toArray 5)).setCell ⟨L, k, none⟩ (.slice (some ⟨Y, 0, none⟩) 64 64) = wb at *
      have B0 : wb.drew.cell? ⟨L, k, none⟩ = some (.slice (some ⟨Y, 0, none⟩) 64 64) := (ext_blk HL2.out (Ext.drew _)).cell k |>.trans HCK.out
      refine wp_region_held_drew (S := fun w' => w'.cell? ⟨L, k, none⟩ = some (.slice (some ⟨Y, 0, none⟩) 64 64)) (by kernel_rfl) B0 (fun hHeld => ?_)
      refine wpAnyH_take (i := 0) (v := .slice (some ⟨L, 0, none⟩) 1 1) rfl (by kernel_rfl) (by kernel_rfl) (by kernel_rfl) (fun _ _ _ h => h) (yi_move _ (.slice (some ⟨L, 0, none⟩) 1 1) (by rfl) rfl rfl) hHeld ?_
      simp only [Act.put, List.getElem_toArray, List.getElem_cons_zero, List.getElem_cons_succ, List.setIfInBounds_toArray, List.set_cons_zero, List.set_cons_succ]
      refine wpAnyH_take (i := 1) (v := .int .i64 (k : Int)) rfl (by kernel_rfl) (by kernel_rfl) (by kernel_rfl) (fun _ _ _ h => h) (yi_move _ (.int .i64 (k : Int)) (by rfl) rfl rfl) hHeld ?_
      simp only [Act.put, List.getElem_toArray, List.getElem_cons_zero, List.getElem_cons_succ, List.setIfInBounds_toArray, List.set_cons_zero, List.set_cons_succ]
      refine wpAnyH_take (i := 2) (v := .pointer (some ⟨L, k, none⟩)) rfl (by kernel_rfl) (by kernel_rfl) (by kernel_rfl) (fun _ _ _ h => h) (yi_val (.pointer (some ⟨L, k, none⟩)) (by rfl) (fun w _ => by go_simp)) hHeld ?_
      simp only [Act.put, List.getElem_toArray, List.getElem_cons_zero, List.getElem_cons_succ, List.setIfInBounds_toArray, List.set_cons_zero, List.set_cons_succ]
      refine wpAnyH_take (i := 3) (v := .slice (some ⟨Y, 0, none⟩) 64 64) rfl (by kernel_rfl) (by kernel_rfl) (by kernel_rfl) (fun _ _ _ h => h) (yi_val (.slice (some ⟨Y, 0, none⟩) 64 64) (by rfl) (fun w h => by go_simp)) hHeld ?_
      simp only [Act.put, List.getElem_toArray, List.getElem_cons_zero, List.getElem_cons_succ, List.setIfInBounds_toArray, List.set_cons_zero, List.set_cons_succ]
      refine wpAnyH_take (i := 4) (v := .slice ab b.length cb) rfl (by kernel_rfl) (by kernel_rfl) (by kernel_rfl) (fun _ _ _ h => h) (yi_move _ (.slice ab b.length cb) (by rfl) rfl rfl) hHeld ?_
      simp only [Act.put, List.getElem_toArray, List.getElem_cons_zero, List.getElem_cons_succ, List.setIfInBounds_toArray, List.set_cons_zero, List.set_cons_succ]
      refine wpAnyH_take (i := 5) (v := .int .i64 (k : Int)) rfl (by kernel_rfl) (by kernel_rfl) (by kernel_rfl) (fun _ _ _ h => h) (yi_move _ (.int .i64 (k : Int)) (by rfl) rfl rfl) hHeld ?_
      simp only [Act.put, List.getElem_toArray, List.getElem_cons_zero, List.getElem_cons_succ, List.setIfInBounds_toArray, List.set_cons_zero, List.set_cons_succ]
      refine wpAnyH_take (i := 6) (v := .int .i64 ((q2 : Nat) : Int)) rfl (by kernel_rfl) (by kernel_rfl) (by kernel_rfl) (fun _ _ _ h => h) (yi_val (.int .i64 ((q2 : Nat) : Int)) (by rfl) (fun w _ => by go_simp; exact HWQ.out)) hHeld ?_
      simp only [Act.put, List.getElem_toArray, List.getElem_cons_zero, List.getElem_cons_succ, List.setIfInBounds_toArray, List.set_cons_zero, List.set_cons_succ]
      refine wpAnyH_take (i := 7) (v := .slice a2 L2 c2) rfl (by kernel_rfl) (by kernel_rfl) (by kernel_rfl) (fun _ _ _ h => h) (yi_slice _ _ _ _ (.slice ab b.length cb) (.slice a2 L2 c2) (some (.int .i64 ((q2 : Nat) : Int))) none (by rfl) rfl rfl rfl rfl HC2.out) hHeld ?_
      simp only [Act.put, List.getElem_toArray, List.getElem_cons_zero, List.getElem_cons_succ, List.setIfInBounds_toArray, List.set_cons_zero, List.set_cons_succ]
      refine wpAnyH_ready (rs := [8]) (by kernel_rfl) (by simp) (AllReadyH.cons rfl (fun K hK => ?_) AllReadyH.nil)
      refine step_wp (by rfl) ?_
      refine wp_copy_blk _ _ 22 22 rfl 5 Try.underlying22 one_u8m _ _ _ _ _ _ rfl rfl Y 0 _ _ (ext_blk HY.out (Ext.drew _)) (cs.map bval) HCS.out (fun h => ⟨rfl, row_src HR1.out cs HCE.out HCL.out (Ext.drew _) h⟩) HFT.out (bval_one _) ?_
      intro wc hb6 hg6
      rw [HLY.out] at hb6
      have hLc : Blk wc L (cells.set k (.slice (some ⟨Y, 0, none⟩) 64 64)) 22 := (ext_blk HL2.out (Ext.drew _)).grown hg6 (by have := HLYN.out; simp; omega)
      refine hK.out _ _ ((hLc.cell k).trans HCK.out) (fun hHeld => ?_)
      clear hK K hHeld
      try simp only [Act.put, List.getElem_toArray, List.getElem_cons_zero, List.getElem_cons_succ, List.setIfInBounds_toArray, List.set_cons_zero, List.set_cons_succ]
      refine wpAnyH_done (by kernel_rfl) ?_ _
      have hw1 : (k : Int) + 1 ≤ 9223372036854775807 := by have := HN32.out; have := HLT.out; omega
      have hw0 : -9223372036854775808 ≤ (k : Int) + 1 := by omega
      have HB6 := Lib.hid hb6
      have HG6 := Lib.hid hg6
      have HLC := Lib.hid hLc
      clear hb6 hg6 hLc B0
      go_wp2_with fail
      go_roundw
      case rel =>
        refine ⟨k + 1, by have := HLT.out; omega, by go_num, ⟨_, HLC.out, by rw [List.length_set]; exact HCLN.out, fun j hj => ?_⟩, ext_grown (HEB.out.trans (Ext.drew _)) HG6.out HYW.out⟩
        by_cases hjk : j = k
        · subst hjk
          exact ⟨Y, HCK.out, HLYN.out, HB6.out⟩
        · obtain ⟨X, h1, h2, h3, h4⟩ := HXO.out j (by omega)
          exact ⟨X, h1, h2, (ext_blk h4 (Ext.drew _)).grown HG6.out (by simp; omega)⟩
      case measure => simp [intOf]; have := HN32.out; have := HLT.out; omega
    · have hge : 1 ≤ (k : Int) := by omega
      have hkn : k = 1 := by have := HK.out; omega
      have hd : decide ((k : Int) < 1) = false := decide_eq_false (by omega)
      have HKN := Lib.hid hkn
      clear hkn
      go_wp2_with fail
      refine bodyPost_ret (res_twoP rfl _ _) rfl ?_
      have hst := HLB.out
      have hkn := HKN.out
      subst hkn
      exact ⟨L, cells, rfl, HLL.out, ⟨HLB.out, HCLN.out, HX.out⟩, HE1.out⟩
set_option maxRecDepth 100000 in
set_option maxHeartbeats 8000000 in
theorem iCut_str2 (b : List UInt8) (bv : Value) (w : World) (hb : Row1 w bv (b.map bval)) (hle : b.length ≤ 2048) (n : Nat) (hn : n = (b.length + 63) / 64) (hn1 : 1 < n) :
    Calls Try.prog 9 #[bv] w fun e w' => ∃ L cells, e = .returned (.tuple #[.slice (some ⟨L, 0, none⟩) n n, .int .i64 0]) ∧ w.heap.size ≤ L ∧ CutSt w' L n n b cells ∧ Ext w w' := by
  obtain ⟨i0, hi, hz0, hz1, hz2⟩ := info_parts Try.info5
  have HI0 := Lib.hid hi
  have HZ0 := Lib.hid hz0
  have HZ1 := Lib.hid hz1
  have HZ2 := Lib.hid hz2
  clear hi hz0 hz1 hz2
  obtain ⟨iq, hq0, hq1, hq2, hq3⟩ := rows_info
  obtain ⟨ab, cb, hbv, -⟩ := id hb
  rw [List.length_map] at hbv
  subst hbv
  have HR := Lib.hid hb
  have HLE := Lib.hid hle
  have HN32 : Hid (n ≤ 32) := Lib.hid (by omega)
  have HQN : Hid (64 * n < b.length + 64 ∨ n = 1) := Lib.hid (by omega)
  have hmk : (Instr.makeSlice 24 (.int .i64 (n : Int)) (.int .i64 (n : Int))).run Try.prog w = .ok (.slice (some ⟨w.heap.size, 0, none⟩) n n) (w.alloc (.cells (List.replicate n (Value.slice none 0 0)).toArray 22)) := run_make_nils w 24 22 Try.underlying24 iq hq0 hq1 hq2 hq3 n (by omega)
  have HB := Lib.hid (Blk.made w (List.replicate n (Value.slice none 0 0)) 22)
  have HE := Lib.hid (Ext.alloc w (.cells (List.replicate n (Value.slice none 0 0)).toArray 22))
  obtain ⟨cs0, hcs0⟩ : ∃ l, l = List.replicate n (Value.slice none 0 0) := ⟨_, rfl⟩
  rw [← hcs0] at hmk HB HE
  have HC0 : Hid (cs0.length = n) := Lib.hid (by rw [hcs0, List.length_replicate])
  clear hcs0
  have hx1 : IntKind.i64.wrap ((b.length : Int) + 64) = (b.length : Int) + 64 := by rw [IntKind.wrap_i64]; omega
  have hx2 : (b.length : Int) + 64 - 1 ≤ 9223372036854775807 := by omega
  have hx3 : ((b.length : Int) + 64 - 1).tdiv 64 = (n : Int) := by rw [Int.tdiv_eq_ediv_of_nonneg (by omega)]; omega
  have hx4 : (n : Int) ≤ 9223372036854775807 := by omega
  have hx5 : -9223372036854775808 ≤ (n : Int) := by omega
  have hx6 : (1 : Int) < (n : Int) := by omega
  have d0 : decide ((2048 : Int) < (b.length : Int)) = false := decide_eq_false (by omega)
  have HQQ := Lib.hid hn
  clear hn
  clear hb hle hq0 hq1 hq2 hq3
  go_enter Try.func9, Try.ntmps9
  go_upto_region 4 with (fail)
  obtain ⟨L, hL⟩ : ∃ L, L = w.heap.size := ⟨_, rfl⟩
  generalize w.alloc (.cells cs0.toArray 22) = w0 at *
  rw [← hL] at HB ⊢
  have HLL : Hid (w.heap.size ≤ L) := Lib.hid (by omega)
  clear hL hmk hx1 hx2 hx3 hx4 hx5 hx6 d0
  go_wp2_with fail
  go_loopw [18] (fun i wr => ∃ k : Nat, k ≤ n ∧ i = .int .i64 (k : Int) ∧ (∃ cells, CutSt wr L n k b cells) ∧ Ext w wr) (fun i _ => 40 - (intOf i).toNat)
  case atStart => exact ⟨0, Nat.zero_le _, rfl, ⟨_, HB.out, HC0.out, fun j h => absurd h (Nat.not_lt_zero _)⟩, HE.out⟩
  case round =>
    obtain ⟨k, hk, rfl, ⟨cells, hLB, hcl, hX⟩, hE⟩ := hrel
    have HK := Lib.hid hk
    have HLB := Lib.hid hLB
    have HCLN := Lib.hid hcl
    have HX := Lib.hid hX
    have HE1 := Lib.hid hE
    clear hk hLB hcl hX hE
    by_cases hlt : k < n
    · have HLT := Lib.hid hlt
      have hlt2 : (k : Int) < (n : Int) := by omega
      have k0 : (0 : Int) ≤ (k : Int) := Int.natCast_nonneg _
      obtain ⟨ck, hck⟩ : ∃ x, cells[k]? = some x := ⟨_, List.getElem?_eq_getElem (by rw [HCLN.out]; exact hlt)⟩
      have hmk2 : (Instr.makeSlice 22 (.int .i64 64) (.int .i64 64)).run Try.prog wr = .ok (.slice (some ⟨wr.heap.size, 0, none⟩) 64 64) (wr.alloc (.cells ((zB 64).map bval).toArray 5)) := run_make_zeros wr _ _ Try.underlying22 i0 HI0.out HZ0.out HZ1.out HZ2.out 64 (by omega)
      have hc1 : (wr.alloc (.cells ((zB 64).map bval).toArray 5)).cell? ⟨L, k, none⟩ = some ck := ((HLB.out.alloc _).cell k).trans hck
      have hf1 : (wr.alloc (.cells ((zB 64).map bval).toArray 5)).frozen? ⟨L, k, none⟩ = false := (HLB.out.alloc _).free k
      have HBY := Lib.hid (Blk.made wr ((zB 64).map bval) 5)
      have HYL := Lib.hid HLB.out.lt
      obtain ⟨q2, hq2⟩ : ∃ q2, q2 = 64 * k := ⟨_, rfl⟩
      have hqi : (k : Int) * 64 = (q2 : Int) := by omega
      have hqb : q2 ≤ b.length := by have := HQN.out; omega
      have HWQ : Hid (IntKind.i64.wrap ((q2 : Nat) : Int) = ((q2 : Nat) : Int)) := Lib.hid (by have := HLE.out; rw [IntKind.wrap_i64]; omega)
      have HQ2 := Lib.hid hq2
      obtain ⟨v2, hr2, hc2⟩ := row_cut (P := Try.prog) Try.underlying22 Try.sizeOf5 HR.out q2 (by rw [List.length_map]; exact hqb)
      obtain ⟨a2, c2, hv2, -⟩ := id hr2
      rw [List.length_drop, List.length_map] at hv2
      subst hv2
      rw [← List.map_drop] at hr2
      obtain ⟨L2, hL2⟩ : ∃ X, X = b.length - q2 := ⟨_, rfl⟩
      rw [← hL2] at hr2 hc2
      have HC2 := Lib.hid hc2
      obtain ⟨cs, hcs⟩ : ∃ cs, cs = (b.drop q2).take 64 := ⟨_, rfl⟩
      have HCS : Hid ((cs.map bval).length = Nat.min L2 64) := Lib.hid (by rw [hcs, List.length_map, List.length_take, List.length_drop, hL2]; exact Nat.min_comm _ _)
      have HCE : Hid (cs = (b.drop q2).take cs.length) := Lib.hid (by rw [hcs, List.length_take]; exact (List.take_eq_take_min ..).symm ▸ (by simp))
      have HCL : Hid (cs.length ≤ (b.drop q2).length) := Lib.hid (by rw [hcs, List.length_take]; omega)
      have HFT : Hid (0 + (cs.map bval).length ≤ ((zB 64).map bval).length) := Lib.hid (by rw [hcs, List.length_map, List.length_take, List.length_map, zB_length]; omega)
      have HLY : Hid (splice ((zB 64).map bval) 0 (cs.map bval) = (cutAt b k).map bval) := Lib.hid (by rw [hcs, HQ2.out]; exact cut_lay b k)
      have HR2 := Lib.hid hr2
      have HAL := Lib.hid (Ext.alloc wr (.cells ((zB 64).map bval).toArray 5))
      clear hcs hL2 hq2 hr2 hc2 hlt
      go_upto_region 8 with (fail)
      clear hmk2
      obtain ⟨Y, hY⟩ : ∃ Y, Y = wr.heap.size := ⟨_, rfl⟩
      rw [← hY] at HBY HYL ⊢
      have HLYN : Hid (L < Y) := HYL
      have HL2 := Lib.hid ((HLB.out.alloc (.cells ((zB 64).map bval).toArray 5)).set k (.slice (some ⟨Y, 0, none⟩) 64 64))
      have HY := Lib.hid (HBY.out.far (a := ⟨L, k, none⟩) (by have := HLYN.out; simp; omega) (.slice (some ⟨Y, 0, none⟩) 64 64))
      have hgr := grownBy_set (World.grownBy.refl (wr.alloc (.cells ((zB 64).map bval).toArray 5)) (some L)) k (.slice (some ⟨Y, 0, none⟩) 64 64)
      have HXO : Hid (∀ j, j < k → ∃ X, (cells.set k (.slice (some ⟨Y, 0, none⟩) 64 64))[j]? = some (.slice (some ⟨X, 0, none⟩) 64 64) ∧ L < X ∧ X < Y ∧ Blk ((wr.alloc (.cells ((zB 64).map bval).toArray 5)).setCell ⟨L, k, none⟩ (.slice (some ⟨Y, 0, none⟩) 64 64)) X ((cutAt b j).map bval) 5) := Lib.hid (fun j hj => by
        obtain ⟨X, h1, h2, h3⟩ := HX.out j hj
        refine ⟨X, by rw [List.getElem?_set_ne (by omega)]; exact h1, h2, by rw [hY]; exact h3.lt, (h3.alloc _).far (by simp; omega) _⟩)
      have HCK : Hid ((cells.set k (.slice (some ⟨Y, 0, none⟩) 64 64))[k]? = some (.slice (some ⟨Y, 0, none⟩) 64 64)) := Lib.hid (by rw [List.getElem?_set_self (by rw [HCLN.out]; exact HLT.out)])
      have HLO : Hid (L < wr.heap.size ∧ w.heap.size ≤ L) := Lib.hid ⟨HLB.out.lt, HLL.out⟩
      have HEB : Hid (Ext w ((wr.alloc (.cells ((zB 64).map bval).toArray 5)).setCell ⟨L, k, none⟩ (.slice (some ⟨Y, 0, none⟩) 64 64))) := Lib.hid (ext_grown (HE1.out.trans HAL.out) hgr HLL.out)
      have HR1 := Lib.hid (HR2.out.below HEB.out)
      have HYW : Hid (w.heap.size ≤ Y) := Lib.hid (by have := HLO.out; omega)
      clear hY hc1 hf1 hgr HBY HX HAL HLB HYL HR2 HLO
      generalize (wr.alloc (.cells ((zB 64).map bval).toArray 5)).setCell ⟨L, k, none⟩ (.slice (some ⟨Y, 0, none⟩) 64 64) = wb at *
      have B0 : wb.drew.cell? ⟨L, k, none⟩ = some (.slice (some ⟨Y, 0, none⟩) 64 64) := (ext_blk HL2.out (Ext.drew _)).cell k |>.trans HCK.out
      refine wp_region_held_drew (S := fun w' => w'.cell? ⟨L, k, none⟩ = some (.slice (some ⟨Y, 0, none⟩) 64 64)) (by kernel_rfl) B0 (fun hHeld => ?_)
      refine wpAnyH_take (i := 0) (v := .slice (some ⟨L, 0, none⟩) n n) rfl (by kernel_rfl) (by kernel_rfl) (by kernel_rfl) (fun _ _ _ h => h) (yi_move _ (.slice (some ⟨L, 0, none⟩) n n) (by rfl) rfl rfl) hHeld ?_
      simp only [Act.put, List.getElem_toArray, List.getElem_cons_zero, List.getElem_cons_succ, List.setIfInBounds_toArray, List.set_cons_zero, List.set_cons_succ]
      refine wpAnyH_take (i := 1) (v := .int .i64 (k : Int)) rfl (by kernel_rfl) (by kernel_rfl) (by kernel_rfl) (fun _ _ _ h => h) (yi_move _ (.int .i64 (k : Int)) (by rfl) rfl rfl) hHeld ?_
      simp only [Act.put, List.getElem_toArray, List.getElem_cons_zero, List.getElem_cons_succ, List.setIfInBounds_toArray, List.set_cons_zero, List.set_cons_succ]
      refine wpAnyH_take (i := 2) (v := .pointer (some ⟨L, k, none⟩)) rfl (by kernel_rfl) (by kernel_rfl) (by kernel_rfl) (fun _ _ _ h => h) (yi_val (.pointer (some ⟨L, k, none⟩)) (by rfl) (fun w _ => by go_simp)) hHeld ?_
      simp only [Act.put, List.getElem_toArray, List.getElem_cons_zero, List.getElem_cons_succ, List.setIfInBounds_toArray, List.set_cons_zero, List.set_cons_succ]
      refine wpAnyH_take (i := 3) (v := .slice (some ⟨Y, 0, none⟩) 64 64) rfl (by kernel_rfl) (by kernel_rfl) (by kernel_rfl) (fun _ _ _ h => h) (yi_val (.slice (some ⟨Y, 0, none⟩) 64 64) (by rfl) (fun w h => by go_simp)) hHeld ?_
      simp only [Act.put, List.getElem_toArray, List.getElem_cons_zero, List.getElem_cons_succ, List.setIfInBounds_toArray, List.set_cons_zero, List.set_cons_succ]
      refine wpAnyH_take (i := 4) (v := .slice ab b.length cb) rfl (by kernel_rfl) (by kernel_rfl) (by kernel_rfl) (fun _ _ _ h => h) (yi_move _ (.slice ab b.length cb) (by rfl) rfl rfl) hHeld ?_
      simp only [Act.put, List.getElem_toArray, List.getElem_cons_zero, List.getElem_cons_succ, List.setIfInBounds_toArray, List.set_cons_zero, List.set_cons_succ]
      refine wpAnyH_take (i := 5) (v := .int .i64 (k : Int)) rfl (by kernel_rfl) (by kernel_rfl) (by kernel_rfl) (fun _ _ _ h => h) (yi_move _ (.int .i64 (k : Int)) (by rfl) rfl rfl) hHeld ?_
      simp only [Act.put, List.getElem_toArray, List.getElem_cons_zero, List.getElem_cons_succ, List.setIfInBounds_toArray, List.set_cons_zero, List.set_cons_succ]
      refine wpAnyH_take (i := 6) (v := .int .i64 ((q2 : Nat) : Int)) rfl (by kernel_rfl) (by kernel_rfl) (by kernel_rfl) (fun _ _ _ h => h) (yi_val (.int .i64 ((q2 : Nat) : Int)) (by rfl) (fun w _ => by go_simp; exact HWQ.out)) hHeld ?_
      simp only [Act.put, List.getElem_toArray, List.getElem_cons_zero, List.getElem_cons_succ, List.setIfInBounds_toArray, List.set_cons_zero, List.set_cons_succ]
      refine wpAnyH_take (i := 7) (v := .slice a2 L2 c2) rfl (by kernel_rfl) (by kernel_rfl) (by kernel_rfl) (fun _ _ _ h => h) (yi_slice _ _ _ _ (.slice ab b.length cb) (.slice a2 L2 c2) (some (.int .i64 ((q2 : Nat) : Int))) none (by rfl) rfl rfl rfl rfl HC2.out) hHeld ?_
      simp only [Act.put, List.getElem_toArray, List.getElem_cons_zero, List.getElem_cons_succ, List.setIfInBounds_toArray, List.set_cons_zero, List.set_cons_succ]
      refine wpAnyH_ready (rs := [8]) (by kernel_rfl) (by simp) (AllReadyH.cons rfl (fun K hK => ?_) AllReadyH.nil)
      refine step_wp (by rfl) ?_
      refine wp_copy_blk _ _ 22 22 rfl 5 Try.underlying22 one_u8m _ _ _ _ _ _ rfl rfl Y 0 _ _ (ext_blk HY.out (Ext.drew _)) (cs.map bval) HCS.out (fun h => ⟨rfl, row_src HR1.out cs HCE.out HCL.out (Ext.drew _) h⟩) HFT.out (bval_one _) ?_
      intro wc hb6 hg6
      rw [HLY.out] at hb6
      have hLc : Blk wc L (cells.set k (.slice (some ⟨Y, 0, none⟩) 64 64)) 22 := (ext_blk HL2.out (Ext.drew _)).grown hg6 (by have := HLYN.out; simp; omega)
      refine hK.out _ _ ((hLc.cell k).trans HCK.out) (fun hHeld => ?_)
      clear hK K hHeld
      try simp only [Act.put, List.getElem_toArray, List.getElem_cons_zero, List.getElem_cons_succ, List.setIfInBounds_toArray, List.set_cons_zero, List.set_cons_succ]
      refine wpAnyH_done (by kernel_rfl) ?_ _
      have hw1 : (k : Int) + 1 ≤ 9223372036854775807 := by have := HN32.out; have := HLT.out; omega
      have hw0 : -9223372036854775808 ≤ (k : Int) + 1 := by omega
      have HB6 := Lib.hid hb6
      have HG6 := Lib.hid hg6
      have HLC := Lib.hid hLc
      clear hb6 hg6 hLc B0
      go_wp2_with fail
      go_roundw
      case rel =>
        refine ⟨k + 1, by have := HLT.out; omega, by go_num, ⟨_, HLC.out, by rw [List.length_set]; exact HCLN.out, fun j hj => ?_⟩, ext_grown (HEB.out.trans (Ext.drew _)) HG6.out HYW.out⟩
        by_cases hjk : j = k
        · subst hjk
          exact ⟨Y, HCK.out, HLYN.out, HB6.out⟩
        · obtain ⟨X, h1, h2, h3, h4⟩ := HXO.out j (by omega)
          exact ⟨X, h1, h2, (ext_blk h4 (Ext.drew _)).grown HG6.out (by simp; omega)⟩
      case measure => simp [intOf]; have := HN32.out; have := HLT.out; omega
    · have hge : (n : Int) ≤ (k : Int) := by omega
      have hkn : k = n := by have := HK.out; omega
      have hd : decide ((k : Int) < (n : Int)) = false := decide_eq_false (by omega)
      have HKN := Lib.hid hkn
      clear hkn
      go_wp2_with fail
      refine bodyPost_ret (res_twoP rfl _ _) rfl ?_
      have hst := HLB.out
      have hkn := HKN.out
      subst hkn
      exact ⟨L, cells, rfl, HLL.out, ⟨HLB.out, HCLN.out, HX.out⟩, HE1.out⟩
theorem iCut_str (b : List UInt8) (bv : Value) (w : World) (hb : Row1 w bv (b.map bval)) (hle : b.length ≤ 2048) :
    Calls Try.prog 9 #[bv] w fun e w' => ∃ L cells, e = .returned (.tuple #[.slice (some ⟨L, 0, none⟩) (cutN b) (cutN b), .int .i64 0]) ∧ w.heap.size ≤ L ∧ CutSt w' L (cutN b) (cutN b) b cells ∧ Ext w w' := by
  by_cases h : b.length ≤ 64
  · have hn : cutN b = 1 := by
      unfold cutN
      split
      · rfl
      · rename_i h0
        have : 0 < b.length := List.length_pos_iff.2 h0
        omega
    rw [hn]
    exact iCut_str1 b bv w hb hle h _ rfl
  · have hn : cutN b = (b.length + 63) / 64 := cutN_of (by omega)
    exact iCut_str2 b bv w hb hle (cutN b) hn (by omega)
end Go.Proofs.Ytjnnhkodkbhbbaa

/- A scope whose label lies ahead (goto as a way out). Nothing here speaks of a program. Each theorem names its own conditions. -/
namespace Go.Proofs.Ytjnnhkodkbhbbaa
set_option linter.unusedVariables false

/-- A scope whose label lies ahead: where the run jumps, what stands behind the label is walked on. -/
theorem wp_scope_fwd {P : Program} {a : Act} {w : World} {Q : Exit → Act → World → Prop} {c rest : Code} (l : Nat) (hf : findLabel c l = some rest) (h : c.wp P (Exit.jump l (fun a w => rest.wp P (Exit.noGoto Q) a w) Q) a w) : (Code.scope c).wp P Q a w :=
  wp_scope_jumps l _ (fun _ _ => 0) hf h (fun a w hJ => Code.wp_mono (fun e a w h => by cases e <;> first | exact h | exact absurd h (by simp [Exit.noGoto])) hJ)

end Go.Proofs.Ytjnnhkodkbhbbaa

/- A block that is known whole, as a slice. Nothing here speaks of a program. Each theorem names its own conditions. -/
namespace Go.Proofs.Ytjnnhkodkbhbbaa
open Go.RowKit

/-- A whole array, as a slice. -/
theorem Blk.row {w : World} {c : Nat} {cs : List Value} {t : TypeId} {n : Nat} (h : Blk w c cs t) (hn : cs.length = n) (hm : n ≤ maxLen) : Row1 w (.slice (some ⟨c, 0, none⟩) n n) cs := by
  subst hn
  refine ⟨_, _, rfl, Nat.le_refl _, hm, (fun e => by cases e), fun _ => ⟨c, 0, rfl, h.lt, fun i hi => ?_⟩⟩
  rw [Nat.zero_add, h.cell i]
theorem num_row {w : World} {c : Nat} {l : List UInt8} {t : TypeId} (h : Blk w c (l.map bval) t) (hl : l.length = 32) : Row1 w (.slice (some ⟨c, 0, none⟩) 32 32) (l.map bval) := h.row (by rw [List.length_map, hl]) (by unfold maxLen; omega)
theorem Row1.head {w : World} {a : Option Addr} {n cap : Nat} {vs : List Value} (h : Row1 w (.slice a n cap) vs) (k : Nat) (hk : k ≤ vs.length) : Row1 w (.slice a k cap) (vs.take k) := by
  obtain ⟨a', cap', e, h1, h2, h3, h4⟩ := h
  cases e
  have hl : (vs.take k).length = k := by simp; omega
  refine ⟨a, cap, by rw [hl], by rw [hl]; omega, h2, h3, fun hne => ?_⟩
  have hv : vs ≠ [] := by intro e; subst e; simp at hne
  obtain ⟨b, off, e, hb, hc⟩ := h4 hv
  refine ⟨b, off, e, hb, fun i hi => ?_⟩
  rw [hl] at hi
  rw [hc i (by omega), List.getElem?_take, if_pos hi]


end Go.Proofs.Ytjnnhkodkbhbbaa

/- The walk of package image's own Make; what package image shows. Each theorem names its own conditions. -/
namespace Go.Proofs.Ytjnnhkodkbhbbaa
open Go.RowKit
set_option linter.unusedVariables false
set_option linter.unusedSimpArgs false

set_option maxRecDepth 100000 in
theorem iCut_long (b : List UInt8) (bv : Value) (w : World) (hb : Row1 w bv (b.map bval)) (hle : 2048 < b.length) :
    Calls Try.prog 9 #[bv] w fun e w' => e = .returned (.tuple #[.slice none 0 0, .int .i64 3]) ∧ Below w.heap.size w w' := by
  obtain ⟨ab, cb, hbv, -⟩ := id hb
  rw [List.length_map] at hbv
  subst hbv
  have d0 : decide ((2048 : Int) < (b.length : Int)) = true := decide_eq_true (by omega)
  clear hb hle
  go_enter Try.func9, Try.ntmps9
  go_wp2_with fail
  refine bodyPost_ret (res_twoP rfl _ _) rfl ?_
  exact ⟨rfl, Below.refl _ _⟩
theorem cut_rowB {w : World} {L : Nat} {b : List UInt8} {cells : List Value} (h : CutSt w L (cutN b) (cutN b) b cells) (hle : b.length ≤ 2048) : RowB w (.slice (some ⟨L, 0, none⟩) (cutN b) (cutN b)) (cutF b) := by
  obtain ⟨h1, h2, h3⟩ := h
  have h32 := cutN_le hle
  refine ⟨cells, h1.row h2 (by unfold maxLen; omega), by rw [h2, cutF_length], fun i x l e1 e2 => ?_⟩
  obtain ⟨hi, -⟩ := List.getElem?_eq_some_iff.1 e1
  obtain ⟨X, e3, -, e5⟩ := h3 i (by omega)
  unfold cutF at e2
  rw [List.getElem?_map, List.getElem?_range (by omega)] at e2
  simp only [Option.map_some, Option.some.injEq] at e2
  rw [e3] at e1
  cases e1
  rw [← e2]
  exact e5.row (by rw [List.length_map, cutAt_length]) (by unfold maxLen; omega)
theorem iCut_any (b : List UInt8) (bv : Value) (w : World) (hb : Row1 w bv (b.map bval)) :
    Calls Try.prog 9 #[bv] w fun e w' => ∃ x, e = .returned (.tuple #[x, .int .i64 (cutE b)]) ∧ RowB w' x (cutL b) ∧ Below w.heap.size w w' := by
  by_cases h : b.length ≤ 2048
  · have e1 : cutE b = 0 := if_pos h
    have e2 : cutL b = cutF b := if_pos h
    rw [e1, e2]
    refine (iCut_str b bv w hb h).mono ?_
    rintro e w' ⟨L, cells, rfl, -, hst, g⟩
    exact ⟨_, rfl, cut_rowB hst h, g⟩
  · have e1 : cutE b = 3 := if_neg h
    have e2 : cutL b = [] := if_neg h
    rw [e1, e2]
    refine (iCut_long b bv w hb (by omega)).mono ?_
    rintro e w' ⟨rfl, g⟩
    exact ⟨_, rfl, ⟨[], Row1.nil _, rfl, fun i x l h1 => by simp at h1⟩, g⟩

set_option maxRecDepth 100000 in
set_option maxHeartbeats 8000000 in
theorem iMake_long (key : List UInt8) (ver : Int) (b : List UInt8) (bv : Value) (w : World) (hb : Row1 w bv (b.map bval)) (hle : 2048 < b.length) :
    Calls Try.prog 13 #[.agg (key.map bval).toArray, .int .i64 ver, bv] w fun e w' => e = .returned (.tuple #[.slice none 0 0, .int .i64 3]) ∧ Below w.heap.size w w' := by
  have HE0 := Lib.hid (Ext.alloc w (.cells (key.map bval).toArray 34))
  have HBV := Lib.hid hb
  have HLE := Lib.hid hle
  clear hb hle
  go_enter Try.func13, Try.ntmps13
  go_wp2_with fail
  refine wp_scope_fwd 0 (by rfl) ?_
  change Code.wp _ _ _ _ (w.alloc (.cells (key.map bval).toArray 34))
  generalize w.alloc (.cells (key.map bval).toArray 34) = wa at *
  have HE : Hid (Ext w wa) := HE0
  clear HE0
  have HCT := Lib.hid (iCut_long b bv wa (HBV.out.below HE.out) HLE.out)
  go_wp2_with fail
  refine HCT.out.mono ?_
  rintro e w1 ⟨rfl, hb⟩
  have HE := Lib.hid (HE.out.trans hb)
  clear hb HCT
  go_wp2_with fail
  go_step3
  refine ⟨rfl, ?_⟩
  go_wp2_with fail
  rw [Exit.noGoto_ret]
  refine bodyPost_ret (res_twoP rfl _ _) rfl ?_
  exact ⟨rfl, HE.out⟩

set_option maxRecDepth 100000 in
set_option maxHeartbeats 8000000 in
theorem iMake_bad (key : List UInt8) (ver : Int) (b : List UInt8) (bv : Value) (w : World) (hk : key.length = 32) (hv : smallB ver = false) (hb : Row1 w bv (b.map bval)) (hle : b.length ≤ 2048) :
    Calls Try.prog 13 #[.agg (key.map bval).toArray, .int .i64 ver, bv] w fun e w' => e = .returned (.tuple #[.slice none 0 0, .int .i64 1]) ∧ Below w.heap.size w w' := by
  have HKL := Lib.hid hk
  have HIK := Lib.hid (num_size hk)
  have HVS := Lib.hid hv
  have HBV := Lib.hid hb
  have HLE := Lib.hid hle
  have HB := Lib.hid (And.intro (Blk.made w (key.map bval) 34) (Ext.alloc w (.cells (key.map bval).toArray 34)))
  clear hk hv hb hle
  go_enter Try.func13, Try.ntmps13
  go_wp2_with fail
  refine wp_scope_fwd 0 (by rfl) ?_
  obtain ⟨h0, hE⟩ := HB.out
  change Code.wp _ _ _ _ (w.alloc (.cells (key.map bval).toArray 34))
  generalize w.alloc (.cells (key.map bval).toArray 34) = wa at *
  obtain ⟨A, hA⟩ : ∃ X, X = w.heap.size := ⟨_, rfl⟩
  rw [← hA] at h0 ⊢
  have HA0 := Lib.hid h0
  have HE : Hid (Ext w wa) := Lib.hid hE
  have HO : Hid (w.heap.size = A) := Lib.hid (by omega)
  clear HB hE hA
  have HCT := Lib.hid (iCut_str b bv wa (HBV.out.below HE.out) HLE.out)
  have HN32 := Lib.hid (cutN_le HLE.out)
  have HN1 := Lib.hid (cutN_pos b)
  obtain ⟨n, hn⟩ : ∃ n, n = cutN b := ⟨_, rfl⟩
  rw [← hn] at HCT HN32 HN1
  have HAW := Lib.hid h0.lt
  clear h0
  go_wp2_with fail
  refine HCT.out.mono ?_
  rintro e w1 ⟨L, cells0, rfl, hLL, ⟨hLB, hcl, hX⟩, hb⟩
  have HLB := Lib.hid hLB
  have HCL0 := Lib.hid hcl
  have HX := Lib.hid hX
  have HAL : Hid (A < L ∧ w.heap.size ≤ L) := Lib.hid (by have := HAW.out; have := HE.out.size; omega)
  have HA0 := Lib.hid (ext_blk HA0.out hb)
  have HE := Lib.hid (HE.out.trans hb)
  have HNN := Lib.hid hn
  clear hLL hLB hcl hX hb HCT HBV hn HAW
  obtain ⟨X, h1, h2, h3⟩ := HX.out 0 (by have := HN1.out; omega)
  have hc1 : w1.cell? ⟨L, 0, none⟩ = some (.slice (some ⟨X, 0, none⟩) 64 64) := (HLB.out.cell 0).trans h1
  have HXR := Lib.hid (h3.row (n := 64) (by rw [List.length_map, cutAt_length]) (by unfold maxLen; omega))
  have HS := Lib.hid (iSeal_bad key ver 0 (cutAt b 0) _ w1 HKL.out HXR.out (by unfold imgB; rw [HVS.out]; rfl))
  have hn0 : (0 : Int) < (n : Int) := by have := HN1.out; omega
  clear h1 h2 h3
  go_wp2_with fail
  refine wp_loop_rounds 1 ?_
  rw [rounds_succ]
  go_upto_region 6 with (fail)
  go_wp2_with (refine wpList_load_blk rfl _ _ rfl A rfl _ _ _ _ HA0.out Try.underlying34 HIK.out ?_)
  refine HS.out.mono ?_
  rintro e w2 ⟨rfl, hb⟩
  have hLB2 := ext_blk HLB.out hb
  have hc2 : w2.cell? ⟨L, 0, none⟩ = some (.slice (some ⟨X, 0, none⟩) 64 64) := Below.cell hb (World.block_lt_of_cell? w1 _ hc1) |>.trans hc1
  have hf2 := hLB2.free 0
  have HE := Lib.hid (HE.out.trans hb)
  clear hb HS hLB2
  go_wp2_with fail
  go_step3
  refine ⟨rfl, ?_⟩
  go_wp2_with fail
  rw [Exit.noGoto_ret]
  refine bodyPost_ret (res_twoP rfl _ _) rfl ?_
  exact ⟨rfl, ext_grown HE.out (grownBy_set (World.grownBy.refl w2 (some L)) 0 _) HAL.out.2⟩

set_option maxRecDepth 100000 in
set_option maxHeartbeats 8000000 in
theorem iMake_good (key : List UInt8) (ver : Int) (b : List UInt8) (bv : Value) (w : World) (hk : key.length = 32) (hv : smallB ver = true) (hb : Row1 w bv (b.map bval)) (hle : b.length ≤ 2048) :
    Calls Try.prog 13 #[.agg (key.map bval).toArray, .int .i64 ver, bv] w fun e w' => ∃ x, e = .returned (.tuple #[x, .int .i64 0]) ∧ RowB w' x (makF key ver b) ∧ Below w.heap.size w w' := by
  have HKL := Lib.hid hk
  have HIK := Lib.hid (num_size hk)
  have HVS := Lib.hid hv
  have HBV := Lib.hid hb
  have HLE := Lib.hid hle
  have HB := Lib.hid (And.intro (Blk.made w (key.map bval) 34) (Ext.alloc w (.cells (key.map bval).toArray 34)))
  clear hk hv hb hle
  go_enter Try.func13, Try.ntmps13
  go_wp2_with fail
  refine wp_scope_fwd 0 (by rfl) ?_
  obtain ⟨h0, hE⟩ := HB.out
  change Code.wp _ _ _ _ (w.alloc (.cells (key.map bval).toArray 34))
  generalize w.alloc (.cells (key.map bval).toArray 34) = wa at *
  obtain ⟨A, hA⟩ : ∃ X, X = w.heap.size := ⟨_, rfl⟩
  rw [← hA] at h0 ⊢
  have HA0 := Lib.hid h0
  have HE : Hid (Ext w wa) := Lib.hid hE
  have HO : Hid (w.heap.size = A) := Lib.hid (by omega)
  clear HB hE hA
  have HCT := Lib.hid (iCut_str b bv wa (HBV.out.below HE.out) HLE.out)
  have HN32 := Lib.hid (cutN_le HLE.out)
  have HN1 := Lib.hid (cutN_pos b)
  obtain ⟨n, hn⟩ : ∃ n, n = cutN b := ⟨_, rfl⟩
  rw [← hn] at HCT HN32 HN1
  have HAW := Lib.hid h0.lt
  clear h0
  go_wp2_with fail
  refine HCT.out.mono ?_
  rintro e w1 ⟨L, cells0, rfl, hLL, ⟨hLB, hcl, hX⟩, hb⟩
  have HLB := Lib.hid hLB
  have HCL0 := Lib.hid hcl
  have HX := Lib.hid hX
  have HAL : Hid (A < L ∧ w.heap.size ≤ L) := Lib.hid (by have := HAW.out; have := HE.out.size; omega)
  have HA0 := Lib.hid (ext_blk HA0.out hb)
  have HE := Lib.hid (HE.out.trans hb)
  have HNN := Lib.hid hn
  clear hLL hLB hcl hX hb HCT HBV hn HAW
  go_wp2_with fail
  go_loopw [21] (fun s wr => ∃ (k : Nat) (cells : List Value), k ≤ n ∧ s = .int .i64 (k : Int) ∧ Blk wr L cells 22 ∧ cells.length = n ∧ (∀ j, j < k → ∃ x, cells[j]? = some x ∧ wr.ownsRow (L + 1) 5 1 x 80 ((blkS key ver j (cutAt b j)).map bval)) ∧ (∀ j, k ≤ j → j < n → ∃ X, cells[j]? = some (.slice (some ⟨X, 0, none⟩) 64 64) ∧ L < X ∧ Blk wr X ((cutAt b j).map bval) 5) ∧ Blk wr A (key.map bval) 34 ∧ Ext w wr) (fun s _ => 40 - (intOf s).toNat)
  case atStart => exact ⟨0, cells0, Nat.zero_le _, rfl, HLB.out, HCL0.out, fun j h => absurd h (Nat.not_lt_zero _), fun j _ hj => HX.out j hj, HA0.out, HE.out⟩
  case round =>
    obtain ⟨k, cells, hk, rfl, hLB, hcl, hD, hX, hA, hE⟩ := hrel
    have HK := Lib.hid hk
    have HLB := Lib.hid hLB
    have HCL := Lib.hid hcl
    have HD := Lib.hid hD
    have HX := Lib.hid hX
    have HA0 := Lib.hid hA
    have HE := Lib.hid hE
    clear hk hLB hcl hD hX hA hE
    by_cases hlt : k < n
    · have HLT := Lib.hid hlt
      have hlt2 : (k : Int) < (n : Int) := by omega
      have k0 : (0 : Int) ≤ (k : Int) := Int.natCast_nonneg _
      obtain ⟨X, h1, h2, h3⟩ := HX.out k (Nat.le_refl _) hlt
      have hc1 : wr.cell? ⟨L, k, none⟩ = some (.slice (some ⟨X, 0, none⟩) 64 64) := (HLB.out.cell k).trans h1
      have HXR := Lib.hid (h3.row (n := 64) (by rw [List.length_map, cutAt_length]) (by unfold maxLen; omega))
      have HS := Lib.hid (iSeal_good key ver k (cutAt b k) _ wr HKL.out (by unfold plcB; rw [HVS.out, decide_eq_true (show (0 : Int) ≤ (k : Int) from k0), decide_eq_true (show (k : Int) ≤ 31 by have := HN32.out; omega)]; rfl) HXR.out (cutAt_length _ _))
      clear h1 h2 h3 hlt
      go_upto_region 6 with (fail)
      go_wp2_with (refine wpList_load_blk rfl _ _ rfl A rfl _ _ _ _ HA0.out Try.underlying34 HIK.out ?_)
      refine HS.out.mono ?_
      rintro e w2 ⟨x, rfl, ho, hb⟩
      obtain ⟨g, cap, cur, hxg, -⟩ := own_form ho (by decide)
      subst hxg
      have HLW := Lib.hid HLB.out.lt
      have HO2 : Hid (w2.ownsRow (L + 1) 5 1 (.slice (some ⟨g, 0, none⟩) 80 cap) 80 ((blkS key ver k (cutAt b k)).map bval)) := Lib.hid (own_mono ho (by have := HLW.out; omega))
      have HLB := Lib.hid (ext_blk HLB.out hb)
      have HA0 := Lib.hid (ext_blk HA0.out hb)
      have HD : Hid (∀ j, j < k → ∃ x, cells[j]? = some x ∧ w2.ownsRow (L + 1) 5 1 x 80 ((blkS key ver j (cutAt b j)).map bval)) := Lib.hid (fun j hj => (HD.out j hj).imp fun x h => ⟨h.1, own_below h.2 hb⟩)
      have HX : Hid (∀ j, k ≤ j → j < n → ∃ X, cells[j]? = some (.slice (some ⟨X, 0, none⟩) 64 64) ∧ L < X ∧ Blk w2 X ((cutAt b j).map bval) 5) := Lib.hid (fun j h1 h2 => (HX.out j h1 h2).imp fun X h => ⟨h.1, h.2.1, ext_blk h.2.2 hb⟩)
      have HE := Lib.hid (HE.out.trans hb)
      have hc2 : w2.cell? ⟨L, k, none⟩ = some (.slice (some ⟨X, 0, none⟩) 64 64) := Below.cell hb (World.block_lt_of_cell? wr _ hc1) |>.trans hc1
      have hf2 := HLB.out.free k
      clear ho hb HS hc1 HXR
      go_upto_region 7 with (fail)
      clear hc2 hf2
      go_upto_region 8 with (fail)
      have hw1 : (k : Int) + 1 ≤ 9223372036854775807 := by have := HN32.out; have := HLT.out; omega
      have hw0 : -9223372036854775808 ≤ (k : Int) + 1 := by omega
      go_wp2_with fail
      go_roundw
      case rel =>
        have hg := grownBy_set (World.grownBy.refl w2 (some L)) k (.slice (some ⟨g, 0, none⟩) 80 cap)
        have hne : ∀ {y : Value} {m : Nat} {ys : List Value}, w2.ownsRow (L + 1) 5 1 y m ys → ∀ r, some L = some r → y.ownBlock ≠ some r := fun ho r e h => by
          cases e
          have := (ho.lt _ h).1
          omega
        refine ⟨k + 1, cells.set k (.slice (some ⟨g, 0, none⟩) 80 cap), by have := HLT.out; omega, by go_num, HLB.out.set k _, by rw [List.length_set]; exact HCL.out, fun j hj => ?_, fun j h1 h2 => ?_, HA0.out.far (by have := HAL.out; simp; omega) _, ext_grown HE.out hg HAL.out.2⟩
        · by_cases hjk : j = k
          · subst hjk
            exact ⟨_, by rw [List.getElem?_set_self (by rw [HCL.out]; exact HLT.out)], own_grown HO2.out hg (hne HO2.out)⟩
          · obtain ⟨y, h3, h4⟩ := HD.out j (by omega)
            exact ⟨y, by rw [List.getElem?_set_ne (by omega)]; exact h3, own_grown h4 hg (hne h4)⟩
        · obtain ⟨X, h3, h4, h5⟩ := HX.out j (by omega) h2
          exact ⟨X, by rw [List.getElem?_set_ne (by omega)]; exact h3, h4, h5.far (by simp; omega) _⟩
      case measure => simp [intOf]; have := HN32.out; have := HLT.out; omega
    · have hge : (n : Int) ≤ (k : Int) := by omega
      have hd : decide ((k : Int) < (n : Int)) = false := decide_eq_false (by omega)
      have HKN : Hid (k = n) := Lib.hid (by have := HK.out; omega)
      go_wp2_with fail
      simp only [Exit.jump]
      refine bodyPost_ret (res_twoP rfl _ _) rfl ?_
      refine ⟨_, rfl, ⟨cells, HLB.out.row HCL.out (by have := HN32.out; unfold maxLen; omega), by rw [HCL.out, makF_length, HNN.out], fun i x l e1 e2 => ?_⟩, HE.out⟩
      obtain ⟨hi, -⟩ := List.getElem?_eq_some_iff.1 e1
      obtain ⟨y, e3, e4⟩ := HD.out i (by rw [HKN.out]; rw [HCL.out] at hi; exact hi)
      unfold makF at e2
      rw [List.getElem?_map, List.getElem?_range (by rw [← HNN.out]; rw [HCL.out] at hi; exact hi)] at e2
      simp only [Option.map_some, Option.some.injEq] at e2
      rw [e3] at e1
      cases e1
      rw [← e2]
      exact Row1.of_own e4
theorem iMake_any (key : List UInt8) (ver : Int) (b : List UInt8) (bv : Value) (w : World) (hk : key.length = 32) (hb : Row1 w bv (b.map bval)) :
    Calls Try.prog 13 #[.agg (key.map bval).toArray, .int .i64 ver, bv] w fun e w' => ∃ x, e = .returned (.tuple #[x, .int .i64 (makE ver b)]) ∧ RowB w' x (makL key ver b) ∧ Below w.heap.size w w' := by
  have nil : ∀ w' : World, RowB w' (.slice none 0 0) ([] : List (List UInt8)) := fun w' => ⟨[], Row1.nil _, rfl, fun i x l h1 => by simp at h1⟩
  by_cases h : b.length ≤ 2048
  · by_cases hv : smallB ver = true
    · have e1 : makE ver b = 0 := by unfold makE; rw [if_pos h, if_pos hv]
      have e2 : makL key ver b = makF key ver b := by unfold makL; rw [if_pos h, if_pos hv]
      rw [e1, e2]
      exact iMake_good key ver b bv w hk hv hb h
    · have e1 : makE ver b = 1 := by unfold makE; rw [if_pos h, if_neg hv]
      have e2 : makL key ver b = [] := by unfold makL; rw [if_pos h, if_neg hv]
      rw [e1, e2]
      refine (iMake_bad key ver b bv w hk (by simpa using hv) hb h).mono ?_
      rintro e w' ⟨rfl, g⟩
      exact ⟨_, rfl, nil _, g⟩
  · have e1 : makE ver b = 3 := if_neg h
    have e2 : makL key ver b = [] := if_neg h
    rw [e1, e2]
    refine (iMake_long key ver b bv w hb (by omega)).mono ?_
    rintro e w' ⟨rfl, g⟩
    exact ⟨_, rfl, nil _, g⟩
/-- What package image shows. -/
theorem img_said : ImgSaid where
  cut := fun b bv w hb _ => iCut_any b bv w hb
  sea := fun key ver i p pv w hk hp _ => iSeal_any key ver i p pv w hk hp
  opn := fun key ver i c cv w hk hc _ => iOpen_any key ver i c cv w hk hc
  mak := fun key ver b bv w hk hb _ => iMake_any key ver b bv w hk hb

end Go.Proofs.Ytjnnhkodkbhbbaa

/- What every law of chapter 18 begins with: num, alive. Each theorem names its own conditions. -/
namespace Go.Proofs.Ytjnnhkodkbhbbaa
open Go.RowKit
set_option linter.unusedVariables false
set_option linter.unusedSimpArgs false

theorem num18 (n : Int) (w : World) : Calls Try.prog 11 #[.int .i64 n] w fun e w' => e = .returned (.int .i64 n) ∧ w = w' := by
  go_enter Try.func11, Try.ntmps11
  go_wp2_with fail
  go_ret
  exact ⟨rfl, rfl⟩

set_option maxRecDepth 100000 in
set_option maxHeartbeats 8000000 in
theorem alive_any18 (SI : ImgSaid) (w : World) : Calls Try.prog 8 #[] w fun e w' => e = .returned (.bool true) ∧ Below w.heap.size w w' := by
  obtain ⟨i0, hi, hz0, hz1, hz2⟩ := info_parts Try.info5
  have hmk : (Instr.makeSlice 22 (.int .i64 65) (.int .i64 65)).run Try.prog w = .ok (.slice (some ⟨w.heap.size, 0, none⟩) 65 65) (w.alloc (.cells ((zB 65).map bval).toArray 5)) := run_make_zeros w _ _ Try.underlying22 i0 hi hz0 hz1 hz2 65 (by omega)
  have HR : Hid (Row1 (w.alloc (.cells ((zB 65).map bval).toArray 5)) (.slice (some ⟨w.heap.size, 0, none⟩) 65 65) ((zB 65).map bval)) := Lib.hid (Row1.made _ _ _ _ _ _ rfl rfl rfl (by unfold maxLen; omega))
  have HE := Lib.hid (Ext.alloc w (.cells ((zB 65).map bval).toArray 5))
  have HCT := Lib.hid (SI.cut (zB 65) _ _ HR.out (by rw [zB_length]; decide))
  have e1 : cutE (zB 65) = 0 := rfl
  have E2 : Hid ((cutL (zB 65)).length = 2) := Lib.hid rfl
  rw [e1] at HCT
  clear hi hz0 hz1 hz2 e1 HR
  go_enter Try.func8, Try.ntmps8
  go_wp2_with fail
  refine HCT.out.mono ?_
  rintro e w1 ⟨x, rfl, ⟨vals, hr, hl, -⟩, hb⟩
  obtain ⟨a, c, hx, -⟩ := id hr
  rw [hl, E2.out] at hx
  subst hx
  have HB := Lib.hid hb
  clear hr hl hb hmk HCT E2
  go_wp2_with fail
  refine (num18 0 w1).mono ?_
  rintro e w' ⟨rfl, rfl⟩
  go_wp2_with fail
  go_ret
  exact ⟨rfl, HE.out.trans HB.out⟩

end Go.Proofs.Ytjnnhkodkbhbbaa
