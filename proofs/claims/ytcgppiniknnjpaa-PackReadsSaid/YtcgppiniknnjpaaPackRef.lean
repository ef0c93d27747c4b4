/- The walks of the document's own encodings: numbers and byte strings, put and read. Each theorem names its own conditions. -/
import Derived.Test.YtcgppiniknnjpaaProg
import Derived.Test.YtcgppiniknnjpaaRowKit
namespace Go.Proofs.Ytcgppiniknnjpaa
open Go.RowKit
set_option linter.unusedVariables false

theorem Try.info5 : (Try.prog.info? 5).map (fun i => (i.zero, i.size, i.bytes)) = some (some (.int .u8 0), 1, 1) := by kernel_rfl

/-- The k-th byte from the right of a number in two's complement. -/
def byteAt (n : Int) (k : Nat) : UInt8 := UInt8.ofNat ((n / 256 ^ k) % 256).toNat
/-- A number's eight bytes, the highest first. -/
def be8 (n : Int) : List UInt8 := [byteAt n 7, byteAt n 6, byteAt n 5, byteAt n 4, byteAt n 3, byteAt n 2, byteAt n 1, byteAt n 0]

theorem be8_length (n : Int) : (be8 n).length = 8 := rfl
/-- The numbers' bytes, one behind the other. -/
def be8s (ns : List Int) : List UInt8 := ns.flatMap be8
theorem be8s_length (ns : List Int) : (be8s ns).length = 8 * ns.length := by
  induction ns with
  | nil => rfl
  | cons n ns ih => simp [be8s] at ih ⊢; rw [be8_length]; omega
theorem be8s_snoc (ns : List Int) (n : Int) : be8s (ns ++ [n]) = be8s ns ++ be8 n := by simp [be8s]

theorem i64_and255 (n : Int) : bits .and .i64 n 255 = n % 256 := by
  have h255 : (BitVec.ofInt 64 255).toNat = 2 ^ 8 - 1 := by decide
  have key : (BitVec.ofInt 64 n &&& BitVec.ofInt 64 255).toNat = (n % ((2 ^ 64 : Nat) : Int)).toNat % 2 ^ 8 := by
    rw [BitVec.toNat_and, BitVec.toNat_ofInt, h255, Nat.and_two_pow_sub_one_eq_mod]
  show IntKind.i64.wrap ((BitVec.ofInt 64 n &&& BitVec.ofInt 64 255).toNat : Nat) = n % 256
  rw [key, IntKind.wrap_i64]
  omega

theorem byte_cell (n : Int) (k : Nat) : bval (byteAt n k) = .int .u8 ((n / 256 ^ k) % 256) := by
  unfold bval byteAt
  congr 1
  generalize n / 256 ^ k = m
  rw [UInt8.toNat_ofNat']
  omega

/-- The eight cells, as the loop leaves them. -/
theorem cells8 (x : Int) : [Value.int .u8 (bits .and .i64 (x / 256 / 256 / 256 / 256 / 256 / 256 / 256) 255 % 256), .int .u8 (bits .and .i64 (x / 256 / 256 / 256 / 256 / 256 / 256) 255 % 256),
    .int .u8 (bits .and .i64 (x / 256 / 256 / 256 / 256 / 256) 255 % 256), .int .u8 (bits .and .i64 (x / 256 / 256 / 256 / 256) 255 % 256), .int .u8 (bits .and .i64 (x / 256 / 256 / 256) 255 % 256),
    .int .u8 (bits .and .i64 (x / 256 / 256) 255 % 256), .int .u8 (bits .and .i64 (x / 256) 255 % 256), .int .u8 (bits .and .i64 x 255 % 256)] = (be8 x).map bval := by
  unfold be8
  simp only [List.map_cons, List.map_nil, byte_cell, i64_and255, Int.emod_emod]
  have e : ∀ k : Nat, x / 256 ^ k / 256 = x / 256 ^ (k + 1) := by
    intro k
    rw [Int.ediv_ediv_of_nonneg (Int.pow_nonneg (by omega)), Int.pow_succ]
  have e0 : x / 256 ^ 0 = x := by simp
  have e1 : x / 256 = x / 256 ^ 1 := by simp
  rw [e1]
  simp only [e, e0]

set_option maxHeartbeats 1000000 in
theorem rint_loop (bv : Value) (bl : List UInt8) (b off cap n : Nat) (ns : List Int) (w : World) (hb : Row1 w bv (bl.map bval)) (hn : ns.length = n) (hn0 : 0 < n) (hcap : n ≤ cap) (hm : cap ≤ maxLen) (hbw : b < w.heap.size)
    (hx : ∀ i, i < ns.length → w.cell? ⟨b, off + i, none⟩ = some (.int .i64 (ns.getD i 0))) (hsz : bl.length + 8 * n ≤ 1099511627776) :
    Calls Try.prog 11 #[bv, .slice (some ⟨b, off, none⟩) n cap] w fun e w' => ∃ v, e = .returned v ∧ w'.ownsRow w.heap.size 5 1 v (bl.length + 8 * n) ((bl ++ be8s ns).map bval) ∧ Below w.heap.size w w' := by
  unfold maxLen at hm
  obtain ⟨i0, hi, hz0, hz1, hz2⟩ := info_parts Try.info5
  have HX := Lib.hid hx
  have HN := Lib.hid hn
  have HB := Lib.hid hb
  have hbl : Hid ((bl.map bval).length = bl.length) := Lib.hid (by simp)
  clear hx hn hb
  go_enter Try.func11, Try.ntmps11
  go_wp2_with (at_builtin; refine wpList_append_row rfl _ _ 22 rfl w.heap.size 5 i0 (.int .u8 0) 1 Try.underlying22 hi hz0 hz1 hz2 rfl _ 0 [] rfl (World.ownsRow_nil _ _ _ _) rfl HB.out (bval_one _) (by rw [hbl.out]; unfold maxLen; omega) (by rw [hbl.out]; omega) (Nat.le_refl _) ?_; intro v1 w1 hown1 hgrow1)
  have hown0 : w1.ownsRow w.heap.size 5 1 v1 (bl.length + 8 * 0) ((bl ++ be8s (ns.take 0)).map bval) := by
    have e : 0 + (bl.map bval).length = bl.length + 8 * 0 := by simp
    rw [e, List.nil_append] at hown1
    simpa [be8s] using hown1
  have hbel0 : Below w.heap.size w w1 := (Below.refl _ _).grown hgrow1 (Nat.le_refl _) (fun r hr => by cases hr)
  clear hown1 hgrow1
  have HO0 := Lib.hid hown0
  have HB0 := Lib.hid hbel0
  clear hown0 hbel0
  go_loopw [5, 6] (fun v i wr => ∃ k : Nat, k ≤ n ∧ i = .int .i64 k ∧ wr.ownsRow w.heap.size 5 1 v (bl.length + 8 * k) ((bl ++ be8s (ns.take k)).map bval) ∧ Below w.heap.size w wr) (fun _ i _ => n - (intOf i).toNat)
  case atStart => exact ⟨0, Nat.zero_le _, rfl, HO0.out, HB0.out⟩
  case round =>
    obtain ⟨k, hk, rfl, hown, hbel⟩ := hrel
    by_cases hlt : k < n
    · have hn := HN.out
      have c1 := hbel.cell (p := ⟨b, off + k, none⟩) hbw
      rw [HX.out k (by omega)] at c1
      have hsz2 := hbel.size
      generalize hx : ns.getD k 0 = x at *
      have HXK := Lib.hid hx
      have HO := Lib.hid hown
      have HBE := Lib.hid hbel
      clear hn hx hown hbel
      go_wp2_with fail
      refine wp_loop_rounds 9 ?_
      iterate 8 (rw [rounds_succ]; go_wp2_with fail)
      rw [rounds_succ]
      go_wp2_with (at_builtin; refine wpList_append_row rfl _ _ 22 rfl w.heap.size 5 i0 (.int .u8 0) 1 Try.underlying22 hi hz0 hz1 hz2 rfl _ (bl.length + 8 * k) _ rfl (HO.out.alloc _) rfl (Row1.made wr _ _ _ _ _ rfl (cells8 x) rfl (by unfold maxLen; omega)) (bval_one _) ?c1 ?c2 ?c3 ?_)
      case c1 => show bl.length + 8 * k + 8 ≤ _; unfold maxLen; omega
      case c2 => show (bl.length + 8 * k + 8) * 1 ≤ _; omega
      case c3 => simp; omega
      intro v2 w2 hown2 hgrow2
      have hn := HN.out
      have hown3 : w2.ownsRow w.heap.size 5 1 v2 (bl.length + 8 * (k + 1)) ((bl ++ be8s (ns.take (k + 1))).map bval) := by
        rw [List.take_succ_eq_append_getElem (by omega), be8s_snoc]
        have e : ns[k]'(by omega) = x := by rw [← HXK.out]; simp [List.getD, show k < ns.length from by omega]
        rw [e, List.map_append, List.map_append]
        have e2 : bl.length + 8 * k + (be8 x).length = bl.length + 8 * (k + 1) := by rw [be8_length]; omega
        rw [e2] at hown2
        exact hown2
      have hbel3 : Below w.heap.size w w2 := (HBE.out.alloc hsz2 _).grown hgrow2 (by simp; omega) (fun r hr => (HO.out.lt r hr).1)
      clear hown2 hgrow2 hn
      go_wp2_with fail
      go_roundw
      case rel => exact ⟨k + 1, by omega, by go_num, hown3, hbel3⟩
      case measure => simp [intOf]; omega
    · have hk' : k = n := by omega
      subst hk'
      have hn := HN.out
      rw [List.take_of_length_le (by omega)] at hown
      have HO := Lib.hid hown
      have HBE := Lib.hid hbel
      clear hown hbel hn
      go_wp2_with fail
      go_ret
      exact ⟨_, rfl, HO.out, HBE.out⟩

set_option maxHeartbeats 400000 in
theorem rint_none (bv : Value) (bl : List UInt8) (a : Option Addr) (cap : Nat) (w : World) (hb : Row1 w bv (bl.map bval)) (hsz : bl.length ≤ 1099511627776) (hm : cap ≤ maxLen) :
    Calls Try.prog 11 #[bv, .slice a 0 cap] w fun e w' => ∃ v, e = .returned v ∧ w'.ownsRow w.heap.size 5 1 v bl.length (bl.map bval) ∧ Below w.heap.size w w' := by
  unfold maxLen at hm
  obtain ⟨i0, hi, hz0, hz1, hz2⟩ := info_parts Try.info5
  have HB := Lib.hid hb
  have hbl : Hid ((bl.map bval).length = bl.length) := Lib.hid (by simp)
  clear hb
  go_enter Try.func11, Try.ntmps11
  go_wp2_with (at_builtin; refine wpList_append_row rfl _ _ 22 rfl w.heap.size 5 i0 (.int .u8 0) 1 Try.underlying22 hi hz0 hz1 hz2 rfl _ 0 [] rfl (World.ownsRow_nil _ _ _ _) rfl HB.out (bval_one _) (by rw [hbl.out]; unfold maxLen; omega) (by rw [hbl.out]; omega) (Nat.le_refl _) ?_; intro v1 w1 hown1 hgrow1)
  have hown0 : w1.ownsRow w.heap.size 5 1 v1 bl.length (bl.map bval) := by
    have e : 0 + (bl.map bval).length = bl.length := by simp
    rw [e, List.nil_append] at hown1
    exact hown1
  have hbel0 : Below w.heap.size w w1 := (Below.refl _ _).grown hgrow1 (Nat.le_refl _) (fun r hr => by cases hr)
  clear hown1 hgrow1
  have HO0 := Lib.hid hown0
  have HB0 := Lib.hid hbel0
  clear hown0 hbel0
  refine wp_loop_rounds 1 ?_
  rw [rounds_succ]
  go_wp2_with fail
  go_ret
  exact ⟨_, rfl, HO0.out, HB0.out⟩

theorem row_nums {w : World} {b off : Nat} {zs : List Int} (h : ∀ i, i < (zs.map (Value.int .i64)).length → w.cell? ⟨b, off + i, none⟩ = (zs.map (Value.int .i64))[i]?) :
    ∀ i, i < zs.length → w.cell? ⟨b, off + i, none⟩ = some (.int .i64 (zs.getD i 0)) := by
  intro i hi
  rw [h i (by simpa using hi)]
  simp [List.getD, hi]

/-- The document's own Int: the bytes and the numbers' bytes behind them, in a row of the call's own. -/
theorem rint_any {bv lv : Value} {bl : List UInt8} {ns : List Int} (w : World) (hb : Row1 w bv (bl.map bval)) (hl : Row1 w lv (ns.map (.int .i64))) (hsz : bl.length + 8 * ns.length ≤ 1099511627776) :
    Calls Try.prog 11 #[bv, lv] w fun e w' => ∃ v, e = .returned v ∧ w'.ownsRow w.heap.size 5 1 v (bl.length + 8 * ns.length) ((bl ++ be8s ns).map bval) ∧ Below w.heap.size w w' := by
  obtain ⟨a, cap, rfl, h1, h2, h3, h4⟩ := hl
  rw [List.length_map] at h1 ⊢
  by_cases h0 : ns = []
  · subst h0
    have := rint_none bv bl a cap w hb (by omega) h2
    simpa [be8s] using this
  · obtain ⟨b, off, rfl, hbw, hc⟩ := h4 (by simpa using h0)
    exact rint_loop bv bl b off cap ns.length ns w hb rfl (List.length_pos_iff.2 h0) h1 h2 hbw (row_nums hc) hsz

set_option maxHeartbeats 400000 in
/-- The document's own One: a number's bytes. -/
theorem rone_any (n : Int) (w : World) :
    Calls Try.prog 27 #[.int .i64 n] w fun e w' => ∃ v, e = .returned v ∧ w'.ownsRow w.heap.size 5 1 v 8 ((be8 n).map bval) ∧ Below w.heap.size w w' := by
  have h := Lib.hid (rint_any (w.alloc (.cells #[.int .i64 n] 3)) (bl := []) (ns := [n]) (Row1.nil _) (Row1.made w #[.int .i64 n] 3 _ 1 [.int .i64 n] rfl rfl rfl (by unfold maxLen; omega) : Row1 _ _ ([n].map (.int .i64))) (by simp))
  go_enter Try.func27, Try.ntmps27
  go_wp2_with fail
  refine (h.out).mono ?_
  rintro e w' ⟨v, rfl, hown, hbel⟩
  have hown2 : w'.ownsRow w.heap.size 5 1 v 8 ((be8 n).map bval) := by
    have : (([] : List UInt8) ++ be8s [n]) = be8 n := by simp [be8s]
    rw [this] at hown
    obtain ⟨g1, g2⟩ := hown
    refine ⟨g1, ?_⟩
    rcases g2 with ⟨g3, g4⟩ | ⟨g, cap, cur, r1, r2, r3⟩
    · exact Or.inl ⟨g3, g4⟩
    · exact Or.inr ⟨g, cap, cur, r1, by simp at r2; omega, r3⟩
  have hbel2 : Below w.heap.size w w' := ((Below.refl w.heap.size w).alloc (Nat.le_refl _) _).trans (hbel.mono (by simp))
  clear hown hbel
  have HO := Lib.hid hown2
  have HB := Lib.hid hbel2
  clear hown2 hbel2
  go_wp2_with fail
  go_ret
  exact ⟨_, rfl, HO.out, HB.out⟩

end Go.Proofs.Ytcgppiniknnjpaa
