/- The walks of package sha's turns of a word. Each theorem names its own conditions. -/
import Derived.Test.YtcadfccijeodbaaDoorProg
import Derived.Test.YtcadfccijeodbaaDoorShaSpec
import Derived.Deep.QuietTactic
import Derived.BigQuiet
namespace Go.Proofs.YtcadfccijeodbaaDoor
open Go.RowKit
set_option linter.unusedVariables false
set_option linter.unusedSimpArgs false

theorem and_u64_31 (n : Nat) (h1 : 0 < n) (h2 : n < 32) : bits .and .u64 (IntKind.u64.wrap (-(n : Int))) 31 = ((32 - n : Nat) : Int) := by
  have h : (BitVec.ofInt 64 31).toNat = 2 ^ 5 - 1 := by decide
  have key : (BitVec.ofInt 64 (IntKind.u64.wrap (-(n : Int))) &&& BitVec.ofInt 64 31).toNat = ((IntKind.u64.wrap (-(n : Int))) % ((2 ^ 64 : Nat) : Int)).toNat % 2 ^ 5 := by
    rw [BitVec.toNat_and, BitVec.toNat_ofInt, h, Nat.and_two_pow_sub_one_eq_mod]
  show IntKind.u64.wrap ((BitVec.ofInt 64 (IntKind.u64.wrap (-(n : Int))) &&& BitVec.ofInt 64 31).toNat : Nat) = _
  rw [key, IntKind.wrap_u64, IntKind.wrap_u64]
  omega
theorem sha_wi_rotl (a : W32) (n : Nat) : bits .or .u32 (IntKind.u32.wrap (wi a * 2 ^ (32 - n))) (wi a / 2 ^ n) = wi (rotr a n) := by
  rw [wi_shr, wi_shl, wi_or, BitVec.or_comm]
  rfl

set_option maxHeartbeats 1000000 in
theorem rotl_any (x : W32) (n : Nat) (h1 : 0 < n) (h2 : n < 32) (w : World) : Calls Tryd.prog 43 #[.int .u32 (wi x), .int .i64 (-(n : Int))] w fun e w' => e = .returned (.int .u32 (wi (rotr x n))) ∧ w = w' := by
  have HX := Lib.hid (sha_wi_rotl x n)
  have hr := wi_range x
  have ha := and_u64_31 n h1 h2
  have n0 : 32 - ((32 - n : Nat) : Int) = (n : Int) := by omega
  have n1 : ((32 - n : Nat) : Int) < 32 := by omega
  generalize wi x = z at *
  generalize 32 - n = m at *
  have hw : IntKind.u64.wrap (32 - (m : Int)) = (n : Int) := by rw [n0, IntKind.wrap_u64]; omega
  go_enter Tryd.func43, Tryd.ntmps43
  go_wp2_with fail
  go_ret
  exact ⟨congrArg (fun v => Ending.returned (.int .u32 v)) (by rw [← HX.out, IntKind.wrap_u32]), rfl⟩

set_option maxHeartbeats 1000000 in
theorem turned_any (x : W32) (n : Nat) (h1 : 0 < n) (h2 : n < 32) (w : World) : Calls Tryd.prog 42 #[.int .u32 (wi x), .int .i64 (n : Int)] w fun e w' => e = .returned (.int .u32 (wi (rotr x n))) ∧ w = w' := by
  have HR := Lib.hid (rotl_any x n h1 h2 w)
  generalize wi x = z at *
  generalize wi (rotr x n) = r at *
  have hw : IntKind.i64.wrap (-(n : Int)) = -(n : Int) := IntWalk.i64_in _ (by omega)
  go_enter Tryd.func42, Tryd.ntmps42
  go_wp2_with fail
  refine HR.out.mono ?_
  rintro e w' ⟨rfl, rfl⟩
  go_wp2_with fail
  go_ret
  exact ⟨rfl, rfl⟩

set_option maxHeartbeats 1000000 in
theorem sha_sum_any (x : W32) (a b c : Nat) (a1 : 0 < a) (a2 : a < 32) (b1 : 0 < b) (b2 : b < 32) (c1 : 0 < c) (c2 : c < 32) (w : World) :
    Calls Tryd.prog 37 #[.int .u32 (wi x), .int .i64 (a : Int), .int .i64 (b : Int), .int .i64 (c : Int)] w fun e w' => e = .returned (.int .u32 (wi (rotr x a ^^^ rotr x b ^^^ rotr x c))) ∧ w = w' := by
  have HA := Lib.hid (fun w => turned_any x a a1 a2 w)
  have HB := Lib.hid (fun w => turned_any x b b1 b2 w)
  have HC := Lib.hid (fun w => turned_any x c c1 c2 w)
  have hx : wi (rotr x a ^^^ rotr x b ^^^ rotr x c) = bits .xor .u32 (bits .xor .u32 (wi (rotr x a)) (wi (rotr x b))) (wi (rotr x c)) := by rw [wi_xor, wi_xor]
  rw [hx]
  generalize wi x = z at *
  generalize wi (rotr x a) = ra at *
  generalize wi (rotr x b) = rb at *
  generalize wi (rotr x c) = rc at *
  clear hx
  go_enter Tryd.func37, Tryd.ntmps37
  go_wp2_with fail
  refine (HA.out _).mono ?_
  rintro e w' ⟨rfl, rfl⟩
  go_wp2_with fail
  refine (HB.out _).mono ?_
  rintro e w' ⟨rfl, rfl⟩
  go_wp2_with fail
  refine (HC.out _).mono ?_
  rintro e w' ⟨rfl, rfl⟩
  go_wp2_with fail
  go_ret
  exact ⟨rfl, rfl⟩

theorem sum_ext (x : W32) (a b c : Nat) (a1 : 0 < a) (a2 : a < 32) (b1 : 0 < b) (b2 : b < 32) (c1 : 0 < c) (c2 : c < 32) (w : World) :
    Calls Tryd.prog 37 #[.int .u32 (wi x), .int .i64 (a : Int), .int .i64 (b : Int), .int .i64 (c : Int)] w fun e w' => e = .returned (.int .u32 (wi (rotr x a ^^^ rotr x b ^^^ rotr x c))) ∧ Below w.heap.size w w' :=
  (sha_sum_any x a b c a1 a2 b1 b2 c1 c2 w).mono fun _ _ h => ⟨h.1, by obtain ⟨_, rfl⟩ := h; exact Below.refl _ _⟩

end Go.Proofs.YtcadfccijeodbaaDoor
