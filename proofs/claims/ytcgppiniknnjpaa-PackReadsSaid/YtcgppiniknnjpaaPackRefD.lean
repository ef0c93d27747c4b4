/- The walks of the document's own cursor's Int, Bytes, Left and End. Each theorem names its own conditions. -/
import Derived.Test.YtcgppiniknnjpaaPackRefC
namespace Go.Proofs.Ytcgppiniknnjpaa
open Go.RowKit
set_option linter.unusedVariables false

/-- The number that bytes are, the highest first. -/
def accN (l : List UInt8) : Nat := l.foldl (fun a b => a * 256 + b.toNat) 0
theorem accN_snoc (l : List UInt8) (b : UInt8) : accN (l ++ [b]) = accN l * 256 + b.toNat := by simp [accN]
theorem accN_from : ∀ (l : List UInt8) (a : Nat), l.foldl (fun a b => a * 256 + b.toNat) a < (a + 1) * 256 ^ l.length
  | [], a => by simp
  | b :: l, a => by
    have hb := b.toNat_lt
    have h := accN_from l (a * 256 + b.toNat)
    have h2 : (a * 256 + b.toNat + 1) * 256 ^ l.length ≤ ((a + 1) * 256) * 256 ^ l.length := Nat.mul_le_mul_right _ (by omega)
    rw [List.foldl_cons, List.length_cons, Nat.pow_succ, Nat.mul_comm (256 ^ l.length), ← Nat.mul_assoc]
    omega
theorem accN_lt (l : List UInt8) : accN l < 256 ^ l.length := by
  have := accN_from l 0
  simpa [accN] using this
/-- The same in two's complement. -/
def decI (l : List UInt8) : Int := IntKind.i64.wrap (accN l : Int)

theorem decI_small {l : List UInt8} (h : l.length ≤ 7) : decI l = (accN l : Int) := by
  unfold decI
  have h1 := accN_lt l
  have h2 : 256 ^ l.length ≤ 256 ^ 7 := Nat.pow_le_pow_right (by omega) h
  have h3 : (256 : Nat) ^ 7 = 72057594037927936 := by decide
  rw [IntKind.wrap_i64]
  omega

theorem i64wrap (n : Int) : IntKind.i64.wrap n = wrap64 n := IntWalk.i64_left n

theorem or_byte (m : Nat) (b : UInt8) (hm : m < 72057594037927936) : bits .or .i64 (IntKind.i64.wrap ((m : Int) * 256)) (b.toNat : Int) = IntKind.i64.wrap ((m * 256 + b.toNat : Nat) : Int) := by
  have hb := b.toNat_lt
  have e1 : (BitVec.ofInt 64 (IntKind.i64.wrap ((m : Int) * 256))).toNat = m * 256 := by
    rw [BitVec.toNat_ofInt, IntKind.wrap_i64]
    omega
  have e2 : (BitVec.ofInt 64 (b.toNat : Int)).toNat = b.toNat := by
    rw [BitVec.toNat_ofInt]
    omega
  show IntKind.i64.wrap ((BitVec.ofInt 64 (IntKind.i64.wrap ((m : Int) * 256)) ||| BitVec.ofInt 64 (b.toNat : Int)).toNat : Nat) = _
  rw [BitVec.toNat_or, e1, e2]
  congr 2
  have := Nat.two_pow_add_eq_or_of_lt (i := 8) (b := b.toNat) (by simpa using hb) m
  rw [Nat.mul_comm m 256]
  exact this.symm

set_option maxHeartbeats 1000000 in
/-- Int, where there are fewer than eight bytes. -/
theorem rcint_no (c p len cap : Nat) (a : Option Addr) (bad : Bool) (w : World) (h : RCur w c (.slice a len cap) p bad) (hlen : len ≤ cap) (hm : cap ≤ maxLen) (hp : p ≤ len) (hn : bad = true ∨ (len : Int) - p < 8) :
    Calls Try.prog 15 #[.pointer (some ⟨c, 0, none⟩)] w fun e w' => e = .returned (.int .i64 0) ∧ RCur w' c (.slice a len cap) p true ∧ w.grownBy w' (some c) := by
  have hr := Lib.hid (rraw_no c p len cap a bad 8 w h hlen hm hp (hn.elim Or.inl fun h => Or.inr (Or.inr h)))
  clear h hn
  go_enter Try.func15, Try.ntmps15
  go_wp2_with fail
  refine hr.out.mono ?_
  rintro e w' ⟨rfl, h1, h2⟩
  go_wp2_with fail
  refine wp_loop_rounds 1 ?_
  rw [rounds_succ]
  go_wp2_with fail
  go_ret
  exact ⟨rfl, h1, h2⟩

theorem RCur.row_ne {w w' : World} {v : Value} {c n : Nat} {l : List UInt8} (h : w'.ownsRow w.heap.size 5 1 v n (l.map bval)) : Row1 w' v (l.map bval) := Row1.of_own h

set_option maxHeartbeats 1000000 in
/-- Int, where there are eight bytes. -/
theorem rcint_yes {bl : List UInt8} (c p : Nat) (bv : Value) (w : World) (h : RCur w c bv p false) (hb : Row1 w bv (bl.map bval)) (hp : p + 8 ≤ bl.length) (hsz : bl.length ≤ 1099511627776) (hne : bv.ownBlock ≠ some c) :
    Calls Try.prog 15 #[.pointer (some ⟨c, 0, none⟩)] w fun e w' => e = .returned (.int .i64 (decI ((bl.drop p).take 8))) ∧ RCur w' c bv (p + 8) false ∧ w.grownBy w' (some c) := by
  have hr := Lib.hid (rraw_yes c p 8 bv w h hb hp hsz)
  clear h hb
  have hl : ((bl.drop p).take 8).length = 8 := by simp; omega
  generalize (bl.drop p).take 8 = l at *
  go_enter Try.func15, Try.ntmps15
  go_wp2_with fail
  refine hr.out.mono ?_
  rintro e w' ⟨v, rfl, hown, h1, h2⟩
  rcases hown.2 with ⟨_, h0⟩ | ⟨g, cap, cur, rfl, _, _, hc1, hc2, _, _⟩
  · omega
  · have hcell : ∀ k, k < 8 → w'.cell? ⟨g, k, none⟩ = some (bval (l.getD k 0)) := by
      intro k hk
      rw [hown.cellAt k (by omega), List.getElem?_map, List.getElem?_eq_getElem (by omega)]
      simp [List.getD, show k < l.length from by omega]
    have HC := Lib.hid hcell
    have H1 := Lib.hid h1
    have H2 := Lib.hid h2
    have HL := Lib.hid hl
    unfold maxLen at hc2
    clear hown hcell h1 h2 hl
    go_wp2_with fail
    go_loop [4, 5] (fun s i => ∃ k : Nat, k ≤ 8 ∧ i = .int .i64 k ∧ s = .int .i64 (decI (l.take k))) (fun _ i => 8 - (intOf i).toNat)
    case atStart => exact ⟨0, by omega, rfl, by rfl⟩
    case round =>
      obtain ⟨k, hk, rfl, hs⟩ := hrel
      by_cases hlt : k < 8
      · have hl := HL.out
        have c1 := HC.out k hlt
        have hsm := decI_small (l := l.take k) (by simp; omega)
        have hm := accN_lt (l.take k)
        have hm2 : 256 ^ (l.take k).length ≤ 256 ^ 7 := Nat.pow_le_pow_right (by omega) (by simp; omega)
        have hm3 : (256 : Nat) ^ 7 = 72057594037927936 := by decide
        have hnext : decI (l.take (k + 1)) = bits .or .i64 (IntKind.i64.wrap ((accN (l.take k) : Int) * 256)) ((l.getD k 0).toNat : Int) := by
          rw [or_byte _ _ (by omega), List.take_succ_eq_append_getElem (by omega)]
          unfold decI
          rw [accN_snoc]
          simp [List.getD, show k < l.length from by omega]
        have hm4 : accN (l.take k) < 72057594037927936 := by omega
        have hbt := (l.getD k 0).toNat_lt
        rw [hsm] at hs
        unfold bval at c1
        generalize accN (l.take k) = m at *
        generalize (l.getD k 0).toNat = bt at *
        subst hs
        have HN := Lib.hid hnext
        clear hl hsm hm hm2 hm3 hnext
        go_wp2_with fail
        go_round
        case rel => exact ⟨k + 1, by omega, by go_num, by rw [HN.out, i64wrap]⟩
        case measure => simp [intOf]; omega
      · have hk' : k = 8 := by omega
        subst hk'
        have hl := HL.out
        rw [List.take_of_length_le (by omega)] at hs
        subst hs
        clear hl
        go_wp2_with fail
        go_ret
        exact ⟨rfl, H1.out, H2.out⟩

set_option maxHeartbeats 400000 in
theorem rleft_any (c p len cap : Nat) (a : Option Addr) (bad : Bool) (w : World) (h : RCur w c (.slice a len cap) p bad) (hlen : len ≤ cap) (hm : cap ≤ maxLen) (hp : p ≤ len) :
    Calls Try.prog 21 #[.pointer (some ⟨c, 0, none⟩)] w fun e w' => e = .returned (.int .i64 (if bad then 0 else (len : Int) - p)) ∧ ∃ k, w' = w.drewN k := by
  unfold maxLen at hm
  have c0 := h.cell 0
  have c1 := h.cell 1
  have c2 := h.cell 2
  simp only [List.getElem?_cons_zero, List.getElem?_cons_succ] at c0 c1 c2
  clear h
  cases bad with
  | true =>
    go_enter Try.func21, Try.ntmps21
    go_wp2_with fail
    go_ret
    exact ⟨rfl, 0, rfl⟩
  | false =>
    go_enter Try.func21, Try.ntmps21
    go_wp2_with fail
    go_quiet (fail)
    go_wp2_with fail
    go_ret
    exact ⟨rfl, _, rfl⟩

set_option maxHeartbeats 400000 in
theorem rend_any (c p len cap : Nat) (a : Option Addr) (bad : Bool) (w : World) (h : RCur w c (.slice a len cap) p bad) (hlen : len ≤ cap) (hm : cap ≤ maxLen) (hp : p ≤ len) :
    Calls Try.prog 24 #[.pointer (some ⟨c, 0, none⟩)] w fun e w' => e = .returned (.bool (!bad && decide (p = len))) ∧ ∃ k, w' = w.drewN k := by
  unfold maxLen at hm
  have c0 := h.cell 0
  have c1 := h.cell 1
  have c2 := h.cell 2
  simp only [List.getElem?_cons_zero, List.getElem?_cons_succ] at c0 c1 c2
  clear h
  cases bad with
  | true =>
    go_enter Try.func24, Try.ntmps24
    go_wp2_with fail
    go_quiet (fail)
    go_wp2_with fail
    go_ret
    exact ⟨rfl, _, rfl⟩
  | false =>
    by_cases hpl : p = len
    · have hq : ((p : Int) == (len : Int)) = true := by simp [hpl]
      have HD : Hid (decide (p = len) = true) := Lib.hid (decide_eq_true hpl)
      clear hpl
      go_enter Try.func24, Try.ntmps24
      go_wp2_with fail
      go_quiet (fail)
      go_wp2_with fail
      go_ret
      exact ⟨by rw [HD.out]; rfl, _, rfl⟩
    · have hq : ((p : Int) == (len : Int)) = false := by simp; omega
      have HD : Hid (decide (p = len) = false) := Lib.hid (decide_eq_false hpl)
      clear hpl
      go_enter Try.func24, Try.ntmps24
      go_wp2_with fail
      go_quiet (fail)
      go_wp2_with fail
      go_ret
      exact ⟨by rw [HD.out]; rfl, _, rfl⟩

set_option maxHeartbeats 400000 in
/-- Bytes, where the length can't be read. -/
theorem rcbytes_none (c p len cap : Nat) (a : Option Addr) (bad : Bool) (w : World) (h : RCur w c (.slice a len cap) p bad) (hlen : len ≤ cap) (hm : cap ≤ maxLen) (hp : p ≤ len) (hn : bad = true ∨ (len : Int) - p < 8) :
    Calls Try.prog 17 #[.pointer (some ⟨c, 0, none⟩)] w fun e w' => e = .returned (.slice none 0 0) ∧ RCur w' c (.slice a len cap) p true ∧ w.grownBy w' (some c) := by
  have hr := Lib.hid (rcint_no c p len cap a bad w h hlen hm hp hn)
  clear h hn
  go_enter Try.func17, Try.ntmps17
  go_wp2_with fail
  refine hr.out.mono ?_
  rintro e w1 ⟨rfl, h1, h2⟩
  have hr2 := Lib.hid (rraw_no c p len cap a true 0 w1 h1 hlen hm hp (Or.inl rfl))
  have H2 := Lib.hid h2
  clear h1 h2
  go_wp2_with fail
  refine hr2.out.mono ?_
  rintro e w2 ⟨rfl, h1, h2⟩
  have H1 := Lib.hid h1
  have H3 := Lib.hid (grownBy_trans H2.out h2)
  clear h1 h2
  go_wp2_with fail
  go_ret
  exact ⟨rfl, H1.out, H3.out⟩

set_option maxHeartbeats 400000 in
/-- Bytes, where the length is negative, or there are fewer bytes. -/
theorem rcbytes_short {bl : List UInt8} (c p : Nat) (bv : Value) (w : World) (h : RCur w c bv p false) (hb : Row1 w bv (bl.map bval)) (hp : p + 8 ≤ bl.length) (hsz : bl.length ≤ 1099511627776) (hne : bv.ownBlock ≠ some c)
    (hn : decI ((bl.drop p).take 8) < 0 ∨ (bl.length : Int) - (p + 8 : Nat) < decI ((bl.drop p).take 8)) :
    Calls Try.prog 17 #[.pointer (some ⟨c, 0, none⟩)] w fun e w' => e = .returned (.slice none 0 0) ∧ RCur w' c bv (p + 8) true ∧ w.grownBy w' (some c) := by
  have hr := Lib.hid (rcint_yes c p bv w h hb hp hsz hne)
  obtain ⟨a, cap, rfl, g1, g2, g3, g4⟩ := hb
  rw [List.length_map] at g1 hr ⊢
  clear h g3 g4
  generalize decI ((bl.drop p).take 8) = n at *
  have HN := Lib.hid hn
  clear hn
  go_enter Try.func17, Try.ntmps17
  go_wp2_with fail
  refine hr.out.mono ?_
  rintro e w1 ⟨rfl, h1, h2⟩
  have hr2 := Lib.hid (rraw_no c (p + 8) bl.length cap a false n w1 h1 g1 g2 hp (Or.inr HN.out))
  have H2 := Lib.hid h2
  clear h1 h2
  go_wp2_with fail
  refine hr2.out.mono ?_
  rintro e w2 ⟨rfl, h1, h2⟩
  have H1 := Lib.hid h1
  have H3 := Lib.hid (grownBy_trans H2.out h2)
  clear h1 h2
  go_wp2_with fail
  go_ret
  exact ⟨rfl, H1.out, H3.out⟩

set_option maxHeartbeats 400000 in
/-- Bytes, where there are as many bytes as the length says. -/
theorem rcbytes_yes {bl : List UInt8} (c p n : Nat) (bv : Value) (w : World) (h : RCur w c bv p false) (hb : Row1 w bv (bl.map bval)) (hp : p + 8 + n ≤ bl.length) (hsz : bl.length ≤ 1099511627776) (hne : bv.ownBlock ≠ some c)
    (hn : decI ((bl.drop p).take 8) = n) :
    Calls Try.prog 17 #[.pointer (some ⟨c, 0, none⟩)] w fun e w' => ∃ v, e = .returned v ∧ w'.ownsRow w.heap.size 5 1 v n (((bl.drop (p + 8)).take n).map bval) ∧ RCur w' c bv (p + 8 + n) false ∧ w.grownBy w' (some c) := by
  have hr := Lib.hid (rcint_yes c p bv w h hb (by omega) hsz hne)
  rw [hn] at hr
  have HB := Lib.hid hb
  clear h hn hb
  go_enter Try.func17, Try.ntmps17
  go_wp2_with fail
  refine hr.out.mono ?_
  rintro e w1 ⟨rfl, h1, h2⟩
  have hrow : Row1 w1 bv (bl.map bval) := HB.out.grown h2 (fun k hk => by cases hk; exact hne)
  have hr2 := Lib.hid (rraw_yes c (p + 8) n bv w1 h1 hrow hp hsz)
  have H2 := Lib.hid h2
  clear h1 h2 hrow
  go_wp2_with fail
  refine hr2.out.mono ?_
  rintro e w2 ⟨v, rfl, h0, h1, h2⟩
  have H0 := Lib.hid (own_mono h0 H2.out.size)
  have H1 := Lib.hid h1
  have H3 := Lib.hid (grownBy_trans H2.out h2)
  clear h0 h1 h2
  go_wp2_with fail
  go_ret
  exact ⟨_, rfl, H0.out, H1.out, H3.out⟩

end Go.Proofs.Ytcgppiniknnjpaa
