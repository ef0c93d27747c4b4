/- The walks of the laws TollParts, TollTimes, TollAdds and TollRooms: each returns true for every input; no condition. -/
import Derived.Test.YtpfjepmdnhmnaaaTollTimes
namespace Go.Proofs.Ytpfjepmdnhmnaaa
open Go.RowKit

set_option maxHeartbeats 400000 in
theorem alive_any (w : World) :
    Calls Try.prog 9 #[] w fun e w' => e = .returned (.bool true) ∧ w = w' := by
  go_enter Try.func9, Try.ntmps9
  go_wp2_with fail
  refine (parts_yes _ part_two part_three).mono ?_
  rintro e w' ⟨rfl, rfl⟩
  go_wp2_with fail
  go_ret
  exact ⟨rfl, rfl⟩

set_option maxHeartbeats 400000 in
theorem tollParts_any (a b : Int) (x y : Nat) (w : World) :
    Calls Try.prog 3 #[.int .i64 a, .int .i64 b, .float .f64 x, .float .f64 y] w fun e w' => e = .returned (.bool true) ∧ w = w' := by
  by_cases hof : 0 ≤ a ∧ a ≤ 1099511627776 ∧ 0 ≤ b ∧ b ≤ 1099511627776
  · obtain ⟨a0, a1, b0, b1⟩ := hof
    have pa := part_of a0 a1
    have pb := part_of b0 b1
    have ea := part_eq pa pa
    have eb := part_eq pb pb
    rw [← fmt64] at ea eb
    have ta : ((a.toNat : Nat) : Int) = a := by omega
    have tb : ((b.toNat : Nat) : Int) = b := by omega
    have TA := Lib.hid ta
    have TB := Lib.hid tb
    clear ta tb
    by_cases ht : IsToll x y
    · obtain ⟨p, q, hp, hq⟩ := ht
      go_enter Try.func3, Try.ntmps3
      go_wp2_with fail
      refine (alive_any _).mono ?_
      rintro e w' ⟨rfl, rfl⟩
      go_wp2_with fail
      refine (of_yes _ _ _ a0 a1 b0 b1).mono ?_
      rintro e w' ⟨rfl, rfl⟩
      go_wp2_with fail
      refine (rof_yes _ _ _ a0 a1 b0 b1).mono ?_
      rintro e w' ⟨rfl, rfl⟩
      go_wp2_with fail
      refine (parts_yes _ hp hq).mono ?_
      rintro e w' ⟨rfl, rfl⟩
      go_wp2_with fail
      refine (rparts_yes _ hp hq).mono ?_
      rintro e w' ⟨rfl, rfl⟩
      go_wp2_with fail
      refine (parts_yes _ pa pb).mono ?_
      rintro e w' ⟨rfl, rfl⟩
      rw [TA.out, TB.out]
      go_wp2_with fail
      go_ret
      exact ⟨rfl, rfl⟩
    · go_enter Try.func3, Try.ntmps3
      go_wp2_with fail
      refine (alive_any _).mono ?_
      rintro e w' ⟨rfl, rfl⟩
      go_wp2_with fail
      refine (of_yes _ _ _ a0 a1 b0 b1).mono ?_
      rintro e w' ⟨rfl, rfl⟩
      go_wp2_with fail
      refine (rof_yes _ _ _ a0 a1 b0 b1).mono ?_
      rintro e w' ⟨rfl, rfl⟩
      go_wp2_with fail
      refine (parts_no _ ht).mono ?_
      rintro e w' ⟨rfl, rfl⟩
      go_wp2_with fail
      refine (rparts_no _ ht).mono ?_
      rintro e w' ⟨rfl, rfl⟩
      go_wp2_with fail
      refine (parts_yes _ pa pb).mono ?_
      rintro e w' ⟨rfl, rfl⟩
      rw [TA.out, TB.out]
      go_wp2_with fail
      go_ret
      exact ⟨rfl, rfl⟩
  · have hn : a < 0 ∨ 1099511627776 < a ∨ b < 0 ∨ 1099511627776 < b := by omega
    clear hof
    have e0 := part_eq part_nought part_nought
    rw [← fmt64] at e0
    by_cases ht : IsToll x y
    · obtain ⟨p, q, hp, hq⟩ := ht
      go_enter Try.func3, Try.ntmps3
      go_wp2_with fail
      refine (alive_any _).mono ?_
      rintro e w' ⟨rfl, rfl⟩
      go_wp2_with fail
      refine (of_no _ _ _ hn).mono ?_
      rintro e w' ⟨rfl, rfl⟩
      go_wp2_with fail
      refine (rof_no _ _ _ hn).mono ?_
      rintro e w' ⟨rfl, rfl⟩
      go_wp2_with fail
      refine (parts_yes _ hp hq).mono ?_
      rintro e w' ⟨rfl, rfl⟩
      go_wp2_with fail
      refine (rparts_yes _ hp hq).mono ?_
      rintro e w' ⟨rfl, rfl⟩
      go_wp2_with fail
      go_ret
      exact ⟨rfl, rfl⟩
    · go_enter Try.func3, Try.ntmps3
      go_wp2_with fail
      refine (alive_any _).mono ?_
      rintro e w' ⟨rfl, rfl⟩
      go_wp2_with fail
      refine (of_no _ _ _ hn).mono ?_
      rintro e w' ⟨rfl, rfl⟩
      go_wp2_with fail
      refine (rof_no _ _ _ hn).mono ?_
      rintro e w' ⟨rfl, rfl⟩
      go_wp2_with fail
      refine (parts_no _ ht).mono ?_
      rintro e w' ⟨rfl, rfl⟩
      go_wp2_with fail
      refine (rparts_no _ ht).mono ?_
      rintro e w' ⟨rfl, rfl⟩
      go_wp2_with fail
      go_ret
      exact ⟨rfl, rfl⟩

/-- Times and the document's own Times answer alike. -/
theorem times_both (x y : Nat) (n : Int) : ∃ z1 z2 ok, Ieee.double.order z1 z1 = some .eq ∧ Ieee.double.order z2 z2 = some .eq ∧
    (∀ w, Calls Try.prog 16 #[.complex .f64 x y, .int .i64 n] w fun e w' => e = .returned (.tuple #[.complex .f64 z1 z2, .bool ok]) ∧ w = w') ∧
    (∀ w, Calls Try.prog 17 #[.complex .f64 x y, .int .i64 n] w fun e w' => e = .returned (.tuple #[.complex .f64 z1 z2, .bool ok]) ∧ w = w') := by
  have e0 := part_eq part_nought part_nought
  by_cases ht : IsToll x y
  · obtain ⟨a, b, ha, hb⟩ := ht
    by_cases hn : n < 0 ∨ 1048576 < n
    · exact ⟨0, 0, false, e0, e0, fun w => times_out w ha hb hn, fun w => rtimes_out w ha hb hn⟩
    · obtain ⟨k, rfl⟩ := Int.eq_ofNat_of_zero_le (show 0 ≤ n by omega)
      have hk : k ≤ 1048576 := by omega
      by_cases hm : 1099511627776 < a * k ∨ 1099511627776 < b * k
      · exact ⟨0, 0, false, e0, e0, fun w => times_great w ha hb hk hm, fun w => rtimes_great w ha hb hk hm⟩
      · have h1 : a * k ≤ 1099511627776 := by omega
        have h2 : b * k ≤ 1099511627776 := by omega
        have p1 := part_of (a := ((a * k : Nat) : Int)) (by omega) (by omega)
        have p2 := part_of (a := ((b * k : Nat) : Int)) (by omega) (by omega)
        exact ⟨_, _, true, part_eq p1 p1, part_eq p2 p2, fun w => times_yes w ha hb hk h1 h2, fun w => rtimes_yes w ha hb hk h1 h2⟩
  · exact ⟨0, 0, false, e0, e0, fun w => times_none w ht, fun w => rtimes_none w ht⟩

/-- Fits and the document's own Fits answer alike. -/
theorem fits_both (x y u v : Nat) : ∃ r,
    (∀ w, Calls Try.prog 18 #[.complex .f64 x y, .complex .f64 u v] w fun e w' => e = .returned (.bool r) ∧ w = w') ∧
    (∀ w, Calls Try.prog 19 #[.complex .f64 x y, .complex .f64 u v] w fun e w' => e = .returned (.bool r) ∧ w = w') := by
  by_cases h : IsToll x y ∧ IsToll u v
  · obtain ⟨⟨a, b, ha, hb⟩, c, d, hc, hd⟩ := h
    exact ⟨_, fun w => fits_yes w ha hb hc hd, fun w => rfits_yes w ha hb hc hd⟩
  · exact ⟨false, fun w => fits_no w h, fun w => rfits_no w h⟩

set_option maxHeartbeats 400000 in
theorem tollTimes_any (x y u v : Nat) (n : Int) (w : World) :
    Calls Try.prog 5 #[.float .f64 x, .float .f64 y, .float .f64 u, .float .f64 v, .int .i64 n] w fun e w' => e = .returned (.bool true) ∧ w = w' := by
  obtain ⟨z1, z2, ok, o1, o2, t1, t2⟩ := times_both x y n
  obtain ⟨r, f1, f2⟩ := fits_both x y u v
  rw [← fmt64] at o1 o2
  have T1 := Lib.hid t1
  have T2 := Lib.hid t2
  have F1 := Lib.hid f1
  have F2 := Lib.hid f2
  clear t1 t2 f1 f2
  go_enter Try.func5, Try.ntmps5
  go_wp2_with fail
  refine (alive_any _).mono ?_
  rintro e w' ⟨rfl, rfl⟩
  go_wp2_with fail
  refine (T1.out _).mono ?_
  rintro e w' ⟨rfl, rfl⟩
  go_wp2_with fail
  refine (T2.out _).mono ?_
  rintro e w' ⟨rfl, rfl⟩
  go_wp2_with fail
  refine (F1.out _).mono ?_
  rintro e w' ⟨rfl, rfl⟩
  go_wp2_with fail
  refine (F2.out _).mono ?_
  rintro e w' ⟨rfl, rfl⟩
  go_wp2_with fail
  go_ret
  exact ⟨by simp, rfl⟩

end Go.Proofs.Ytpfjepmdnhmnaaa
