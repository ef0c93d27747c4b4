/- The walks of package shb's turns of a word. Each theorem names its own conditions. -/
import Derived.Test.YtmadoehajapfhaaDoorProg
import Derived.Test.YtmadoehajapfhaaDoorShbSpec
import Derived.Deep.QuietTactic
import Derived.BigQuiet
namespace Go.Proofs.YtmadoehajapfhaaDoor
open Go.RowKit
set_option linter.unusedVariables false
set_option linter.unusedSimpArgs false

theorem and_u64_63 (n : Nat) (h1 : 0 < n) (h2 : n < 64) : bits .and .u64 (IntKind.u64.wrap (-(n : Int))) 63 = ((64 - n : Nat) : Int) := by
  have h : (BitVec.ofInt 64 63).toNat = 2 ^ 6 - 1 := by decide
  have key : (BitVec.ofInt 64 (IntKind.u64.wrap (-(n : Int))) &&& BitVec.ofInt 64 63).toNat = ((IntKind.u64.wrap (-(n : Int))) % ((2 ^ 64 : Nat) : Int)).toNat % 2 ^ 6 := by
    rw [BitVec.toNat_and, BitVec.toNat_ofInt, h, Nat.and_two_pow_sub_one_eq_mod]
  show IntKind.u64.wrap ((BitVec.ofInt 64 (IntKind.u64.wrap (-(n : Int))) &&& BitVec.ofInt 64 63).toNat : Nat) = _
  rw [key, IntKind.wrap_u64, IntKind.wrap_u64]
  omega
theorem qi_rotlQ (a : Q64) (n : Nat) : bits .or .u64 (IntKind.u64.wrap (qi a * 2 ^ (64 - n))) (qi a / 2 ^ n) = qi (rotq a n) := by
  rw [qi_shr, qi_shl, qi_or, BitVec.or_comm]
  rfl

set_option maxHeartbeats 1000000 in
theorem rotl_anyQ (x : Q64) (n : Nat) (h1 : 0 < n) (h2 : n < 64) (w : World) : Calls Tryd.prog 44 #[.int .u64 (qi x), .int .i64 (-(n : Int))] w fun e w' => e = .returned (.int .u64 (qi (rotq x n))) ∧ w = w' := by
  have HX := Lib.hid (qi_rotlQ x n)
  have hr := qi_range x
  have ha := and_u64_63 n h1 h2
  have n0 : 64 - ((64 - n : Nat) : Int) = (n : Int) := by omega
  have n1 : ((64 - n : Nat) : Int) < 64 := by omega
  generalize qi x = z at *
  generalize 64 - n = m at *
  have hw : IntKind.u64.wrap (64 - (m : Int)) = (n : Int) := by rw [n0, IntKind.wrap_u64]; omega
  go_enter Tryd.func44, Tryd.ntmps44
  go_wp2_with fail
  go_ret
  exact ⟨congrArg (fun v => Ending.returned (.int .u64 v)) (by rw [← HX.out, IntKind.wrap_u64]), rfl⟩

set_option maxHeartbeats 1000000 in
theorem turned_anyQ (x : Q64) (n : Nat) (h1 : 0 < n) (h2 : n < 64) (w : World) : Calls Tryd.prog 42 #[.int .u64 (qi x), .int .i64 (n : Int)] w fun e w' => e = .returned (.int .u64 (qi (rotq x n))) ∧ w = w' := by
  have HR := Lib.hid (rotl_anyQ x n h1 h2 w)
  generalize qi x = z at *
  generalize qi (rotq x n) = r at *
  have hw : IntKind.i64.wrap (-(n : Int)) = -(n : Int) := IntWalk.i64_in _ (by omega)
  go_enter Tryd.func42, Tryd.ntmps42
  go_wp2_with fail
  refine HR.out.mono ?_
  rintro e w' ⟨rfl, rfl⟩
  go_wp2_with fail
  go_ret
  exact ⟨rfl, rfl⟩

set_option maxHeartbeats 1000000 in
theorem sum_anyQ (x : Q64) (a b c : Nat) (a1 : 0 < a) (a2 : a < 64) (b1 : 0 < b) (b2 : b < 64) (c1 : 0 < c) (c2 : c < 64) (w : World) :
    Calls Tryd.prog 37 #[.int .u64 (qi x), .int .i64 (a : Int), .int .i64 (b : Int), .int .i64 (c : Int)] w fun e w' => e = .returned (.int .u64 (qi (rotq x a ^^^ rotq x b ^^^ rotq x c))) ∧ w = w' := by
  have HA := Lib.hid (fun w => turned_anyQ x a a1 a2 w)
  have HB := Lib.hid (fun w => turned_anyQ x b b1 b2 w)
  have HC := Lib.hid (fun w => turned_anyQ x c c1 c2 w)
  have hx : qi (rotq x a ^^^ rotq x b ^^^ rotq x c) = bits .xor .u64 (bits .xor .u64 (qi (rotq x a)) (qi (rotq x b))) (qi (rotq x c)) := by rw [qi_xor, qi_xor]
  rw [hx]
  generalize qi x = z at *
  generalize qi (rotq x a) = ra at *
  generalize qi (rotq x b) = rb at *
  generalize qi (rotq x c) = rc at *
  clear hx
  go_enter Tryd.func37, Tryd.ntmps37
  go_wp2_with fail
  refine (HA.out _).mono ?_
  rintro e w' ⟨rfl, rfl⟩
  go_wp2_with fail
  refine (HB.out _).mono ?_
  rintro e w' ⟨rfl, rfl⟩
  go_wp2_with fail
  refine (HC.out _).mono ?_
  rintro e w' ⟨rfl, rfl⟩
  go_wp2_with fail
  go_ret
  exact ⟨rfl, rfl⟩

theorem sum_extQ (x : Q64) (a b c : Nat) (a1 : 0 < a) (a2 : a < 64) (b1 : 0 < b) (b2 : b < 64) (c1 : 0 < c) (c2 : c < 64) (w : World) :
    Calls Tryd.prog 37 #[.int .u64 (qi x), .int .i64 (a : Int), .int .i64 (b : Int), .int .i64 (c : Int)] w fun e w' => e = .returned (.int .u64 (qi (rotq x a ^^^ rotq x b ^^^ rotq x c))) ∧ Below w.heap.size w w' :=
  (sum_anyQ x a b c a1 a2 b1 b2 c1 c2 w).mono fun _ _ h => ⟨h.1, by obtain ⟨_, rfl⟩ := h; exact Below.refl _ _⟩

end Go.Proofs.YtmadoehajapfhaaDoor
