/- The walk of the law TollRooms: true for every three pairs of numbers; no condition. -/
import Derived.Test.YtpfjepmdnhmnaaaTollSums
import Derived.Deep.QuietTactic
import Derived.BigQuiet
namespace Go.Proofs.Ytpfjepmdnhmnaaa
open Go.RowKit
set_option linter.unusedVariables false

theorem fits_true {x y u v a b c d : Nat} (w : World) (hx : IsPart x a) (hy : IsPart y b) (hu : IsPart u c) (hv : IsPart v d) (h : a ≤ c ∧ b ≤ d) :
    Calls Try.prog 18 #[.complex .f64 x y, .complex .f64 u v] w fun e w' => e = .returned (.bool true) ∧ w' = w :=
  (fits_yes w hx hy hu hv).mono fun _ _ ⟨h1, h2⟩ => ⟨by rw [h1, decide_eq_true h], h2.symm⟩
theorem fits_false {x y u v a b c d : Nat} (w : World) (hx : IsPart x a) (hy : IsPart y b) (hu : IsPart u c) (hv : IsPart v d) (h : ¬ (a ≤ c ∧ b ≤ d)) :
    Calls Try.prog 18 #[.complex .f64 x y, .complex .f64 u v] w fun e w' => e = .returned (.bool false) ∧ w' = w :=
  (fits_yes w hx hy hu hv).mono fun _ _ ⟨h1, h2⟩ => ⟨by rw [h1, decide_eq_false h], h2.symm⟩

theorem crow_two (w : World) (x0 x1 y0 y1 : Nat) (n : Nat) (h : w.heap.size = n) : CRow (w.alloc (.cells #[.complex .f64 x0 x1, .complex .f64 y0 y1] 24)) (.slice (some ⟨n, 0, none⟩) 2 2) [(x0, x1), (y0, y1)] := by
  subst h
  refine Or.inr ⟨w.heap.size, 0, 2, rfl, Nat.le_refl _, by unfold maxLen; omega, fun i hi => ?_⟩
  rw [World.cell?_alloc_at _ _ _ _ rfl]
  match i, hi with
  | 0, _ => rfl
  | 1, _ => rfl

theorem rsum_two (w : World) (x0 x1 y0 y1 : Nat) (n : Nat) (h : w.heap.size = n) :
    Calls Try.prog 15 #[.slice (some ⟨n, 0, none⟩) 2 2] (w.alloc (.cells #[.complex .f64 x0 x1, .complex .f64 y0 y1] 24)) fun e w' => ∃ s, e = .returned s ∧ SumOf [(x0, x1), (y0, y1)] s ∧ (w.alloc (.cells #[.complex .f64 x0 x1, .complex .f64 y0 y1] 24)) = w' :=
  rsum_any _ (crow_two w x0 x1 y0 y1 n h)

theorem sums_two {x0 x1 y0 y1 a0 a1 b0 b1 : Nat} (h0 : IsPart x0 a0) (h1 : IsPart x1 a1) (g0 : IsPart y0 b0) (g1 : IsPart y1 b1) :
    a0 ≤ sA [(x0, x1), (y0, y1)] ∧ a1 ≤ sB [(x0, x1), (y0, y1)] := by
  have l0 := h0.2
  have l1 := h1.2
  unfold sA sB
  simp only [List.map_cons, List.map_nil, List.sum_cons, List.sum_nil, tA_eq h0 h1, tA_eq g0 g1, tB_eq h0 h1, tB_eq g0 g1]
  omega

theorem rooms_below (w : World) (o1 o2 o3 o4 : Obj) (n : Nat) : Below w.heap.size w (((((w.alloc o1).alloc o2).alloc o3).drewN n).alloc o4) := by
  have h := (((Below.refl w.heap.size w).alloc (Nat.le_refl _) o1).alloc (by simp) o2).alloc (by simp; omega) o3
  have h2 : Below w.heap.size w ((((w.alloc o1).alloc o2).alloc o3).drewN n) := h.trans ⟨rfl, rfl, rfl, Nat.le_refl _, fun _ _ => rfl⟩
  exact h2.alloc h2.size o4

set_option maxHeartbeats 1000000 in
theorem tollRooms_in (a0 a1 b0 b1 c0 c1 : Nat) (w : World) (ha0 : a0 ≤ 1099511627776) (ha1 : a1 ≤ 1099511627776) (hb0 : b0 ≤ 1099511627776) (hb1 : b1 ≤ 1099511627776) (hc0 : c0 ≤ 1099511627776) (hc1 : c1 ≤ 1099511627776) :
    Calls Try.prog 8 #[.agg #[.int .i64 a0, .int .i64 a1], .agg #[.int .i64 b0, .int .i64 b1], .agg #[.int .i64 c0, .int .i64 c1]] w fun e w' => e = .returned (.bool true) ∧ Below w.heap.size w w' := by
  have pa0 := part_of (a := (a0 : Int)) (by omega) (by omega)
  have pa1 := part_of (a := (a1 : Int)) (by omega) (by omega)
  have pb0 := part_of (a := (b0 : Int)) (by omega) (by omega)
  have pb1 := part_of (a := (b1 : Int)) (by omega) (by omega)
  have pc0 := part_of (a := (c0 : Int)) (by omega) (by omega)
  have pc1 := part_of (a := (c1 : Int)) (by omega) (by omega)
  rw [Int.toNat_natCast] at pa0 pa1 pb0 pb1 pc0 pc1
  have O1 := Lib.hid (fun w => of_yes (a0 : Int) (a1 : Int) w (by omega) (by omega) (by omega) (by omega))
  have O2 := Lib.hid (fun w => of_yes (b0 : Int) (b1 : Int) w (by omega) (by omega) (by omega) (by omega))
  have O3 := Lib.hid (fun w => of_yes (c0 : Int) (c1 : Int) w (by omega) (by omega) (by omega) (by omega))
  generalize floatOfInt .f64 (a0 : Int) = x0 at *
  generalize floatOfInt .f64 (a1 : Int) = x1 at *
  generalize floatOfInt .f64 (b0 : Int) = y0 at *
  generalize floatOfInt .f64 (b1 : Int) = y1 at *
  generalize floatOfInt .f64 (c0 : Int) = z0 at *
  generalize floatOfInt .f64 (c1 : Int) = z1 at *
  have FX := Lib.hid (fun w => fits_true w pa0 pa1 pa0 pa1 ⟨Nat.le_refl _, Nat.le_refl _⟩)
  have F0 := Lib.hid (fun w => fits_true w part_nought part_nought pa0 pa1 ⟨Nat.zero_le _, Nat.zero_le _⟩)
  by_cases g0 : a0 ≤ b0
  · by_cases g1 : a1 ≤ b1
    · have F1 := Lib.hid (fun w => fits_true w pa0 pa1 pb0 pb1 ⟨g0, g1⟩)
      by_cases g2 : b0 ≤ c0 ∧ b1 ≤ c1
      · have F2 := Lib.hid (fun w => fits_true w pb0 pb1 pc0 pc1 g2)
        have F3 := Lib.hid (fun w => fits_true w pa0 pa1 pc0 pc1 ⟨Nat.le_trans g0 g2.1, Nat.le_trans g1 g2.2⟩)
        clear g2
        go_enter Try.func8, Try.ntmps8
        go_wp2_with fail
        refine (alive_any _).mono ?_
        rintro e w' ⟨rfl, rfl⟩
        go_wp2_with fail
        refine (O1.out _).mono ?_
        rintro e w' ⟨rfl, rfl⟩
        go_wp2_with fail
        refine (O2.out _).mono ?_
        rintro e w' ⟨rfl, rfl⟩
        go_wp2_with fail
        refine (O3.out _).mono ?_
        rintro e w' ⟨rfl, rfl⟩
        go_wp2_with fail
        go_quiet ((go_at_call 18; exact Calls.quiet_of_same (F1.out _)))
        go_wp2_with fail
        refine (F1.out _).mono ?_
        rintro e w' ⟨rfl, rfl⟩
        go_wp2_with fail
        refine (F2.out _).mono ?_
        rintro e w' ⟨rfl, rfl⟩
        go_wp2_with fail
        refine (F3.out _).mono ?_
        rintro e w' ⟨rfl, rfl⟩
        go_wp2_with fail
        refine (FX.out _).mono ?_
        rintro e w' ⟨rfl, rfl⟩
        go_wp2_with fail
        refine (F0.out _).mono ?_
        rintro e w' ⟨rfl, rfl⟩
        go_wp2_with fail
        ((with_reducible refine (rsum_two _ x0 x1 y0 y1 _ ?hsize).mono ?_); try (case hsize => simp [World.drewN]))
        rintro e w' ⟨s, rfl, ⟨u1, u2, rfl, p1, p2⟩, rfl⟩
        have FS := Lib.hid (fun w => fits_true w pa0 pa1 p1 p2 (sums_two pa0 pa1 pb0 pb1))
        go_wp2_with fail
        refine (FS.out _).mono ?_
        rintro e w' ⟨rfl, rfl⟩
        go_wp2_with fail
        go_ret
        exact ⟨rfl, rooms_below _ _ _ _ _ _⟩
      · have F2 := Lib.hid (fun w => fits_false w pb0 pb1 pc0 pc1 g2)
        clear g2
        go_enter Try.func8, Try.ntmps8
        go_wp2_with fail
        refine (alive_any _).mono ?_
        rintro e w' ⟨rfl, rfl⟩
        go_wp2_with fail
        refine (O1.out _).mono ?_
        rintro e w' ⟨rfl, rfl⟩
        go_wp2_with fail
        refine (O2.out _).mono ?_
        rintro e w' ⟨rfl, rfl⟩
        go_wp2_with fail
        refine (O3.out _).mono ?_
        rintro e w' ⟨rfl, rfl⟩
        go_wp2_with fail
        go_quiet ((go_at_call 18; exact Calls.quiet_of_same (F1.out _)))
        go_wp2_with fail
        refine (F1.out _).mono ?_
        rintro e w' ⟨rfl, rfl⟩
        go_wp2_with fail
        refine (F2.out _).mono ?_
        rintro e w' ⟨rfl, rfl⟩
        go_wp2_with fail
        refine (FX.out _).mono ?_
        rintro e w' ⟨rfl, rfl⟩
        go_wp2_with fail
        refine (F0.out _).mono ?_
        rintro e w' ⟨rfl, rfl⟩
        go_wp2_with fail
        ((with_reducible refine (rsum_two _ x0 x1 y0 y1 _ ?hsize).mono ?_); try (case hsize => simp [World.drewN]))
        rintro e w' ⟨s, rfl, ⟨u1, u2, rfl, p1, p2⟩, rfl⟩
        have FS := Lib.hid (fun w => fits_true w pa0 pa1 p1 p2 (sums_two pa0 pa1 pb0 pb1))
        go_wp2_with fail
        refine (FS.out _).mono ?_
        rintro e w' ⟨rfl, rfl⟩
        go_wp2_with fail
        go_ret
        exact ⟨rfl, rooms_below _ _ _ _ _ _⟩
    · have F1 := Lib.hid (fun w => fits_false w pa0 pa1 pb0 pb1 (by omega))
      go_enter Try.func8, Try.ntmps8
      go_wp2_with fail
      refine (alive_any _).mono ?_
      rintro e w' ⟨rfl, rfl⟩
      go_wp2_with fail
      refine (O1.out _).mono ?_
      rintro e w' ⟨rfl, rfl⟩
      go_wp2_with fail
      refine (O2.out _).mono ?_
      rintro e w' ⟨rfl, rfl⟩
      go_wp2_with fail
      refine (O3.out _).mono ?_
      rintro e w' ⟨rfl, rfl⟩
      go_wp2_with fail
      go_quiet ((go_at_call 18; exact Calls.quiet_of_same (F1.out _)))
      go_wp2_with fail
      refine (F1.out _).mono ?_
      rintro e w' ⟨rfl, rfl⟩
      go_wp2_with fail
      refine (FX.out _).mono ?_
      rintro e w' ⟨rfl, rfl⟩
      go_wp2_with fail
      refine (F0.out _).mono ?_
      rintro e w' ⟨rfl, rfl⟩
      go_wp2_with fail
      ((with_reducible refine (rsum_two _ x0 x1 y0 y1 _ ?hsize).mono ?_); try (case hsize => simp [World.drewN]))
      rintro e w' ⟨s, rfl, ⟨u1, u2, rfl, p1, p2⟩, rfl⟩
      have FS := Lib.hid (fun w => fits_true w pa0 pa1 p1 p2 (sums_two pa0 pa1 pb0 pb1))
      go_wp2_with fail
      refine (FS.out _).mono ?_
      rintro e w' ⟨rfl, rfl⟩
      go_wp2_with fail
      go_ret
      exact ⟨rfl, rooms_below _ _ _ _ _ _⟩
  · have F1 := Lib.hid (fun w => fits_false w pa0 pa1 pb0 pb1 (by omega))
    have gd : decide (a0 ≤ b0) = false := decide_eq_false g0
    go_enter Try.func8, Try.ntmps8
    go_wp2_with fail
    refine (alive_any _).mono ?_
    rintro e w' ⟨rfl, rfl⟩
    go_wp2_with fail
    refine (O1.out _).mono ?_
    rintro e w' ⟨rfl, rfl⟩
    go_wp2_with fail
    refine (O2.out _).mono ?_
    rintro e w' ⟨rfl, rfl⟩
    go_wp2_with fail
    refine (O3.out _).mono ?_
    rintro e w' ⟨rfl, rfl⟩
    go_wp2_with fail
    go_quiet ((go_at_call 18; exact Calls.quiet_of_same (F1.out _)))
    go_wp2_with fail
    refine (F1.out _).mono ?_
    rintro e w' ⟨rfl, rfl⟩
    go_wp2_with fail
    refine (FX.out _).mono ?_
    rintro e w' ⟨rfl, rfl⟩
    go_wp2_with fail
    refine (F0.out _).mono ?_
    rintro e w' ⟨rfl, rfl⟩
    go_wp2_with fail
    ((with_reducible refine (rsum_two _ x0 x1 y0 y1 _ ?hsize).mono ?_); try (case hsize => simp [World.drewN]))
    rintro e w' ⟨s, rfl, ⟨u1, u2, rfl, p1, p2⟩, rfl⟩
    have FS := Lib.hid (fun w => fits_true w pa0 pa1 p1 p2 (sums_two pa0 pa1 pb0 pb1))
    go_wp2_with fail
    refine (FS.out _).mono ?_
    rintro e w' ⟨rfl, rfl⟩
    go_wp2_with fail
    go_ret
    exact ⟨rfl, rooms_below _ _ _ _ _ _⟩

/-- What Of answers of any two numbers. -/
theorem of_any (a b : Int) : ∃ u v ok, (ok = true → 0 ≤ a ∧ a ≤ 1099511627776 ∧ 0 ≤ b ∧ b ≤ 1099511627776) ∧
    ∀ w, Calls Try.prog 10 #[.int .i64 a, .int .i64 b] w fun e w' => e = .returned (.tuple #[.complex .f64 u v, .bool ok]) ∧ w = w' := by
  by_cases h : 0 ≤ a ∧ a ≤ 1099511627776 ∧ 0 ≤ b ∧ b ≤ 1099511627776
  · exact ⟨_, _, true, fun _ => h, fun w => of_yes a b w h.1 h.2.1 h.2.2.1 h.2.2.2⟩
  · exact ⟨0, 0, false, fun e => absurd e (by decide), fun w => of_no a b w (by omega)⟩

theorem below_three (w : World) (o1 o2 o3 : Obj) : Below w.heap.size w (((w.alloc o1).alloc o2).alloc o3) :=
  (((Below.refl w.heap.size w).alloc (Nat.le_refl _) o1).alloc (by simp) o2).alloc (by simp; omega) o3

set_option maxHeartbeats 1000000 in
theorem tollRooms_any (a0 a1 b0 b1 c0 c1 : Int) (w : World) :
    Calls Try.prog 8 #[.agg #[.int .i64 a0, .int .i64 a1], .agg #[.int .i64 b0, .int .i64 b1], .agg #[.int .i64 c0, .int .i64 c1]] w fun e w' => e = .returned (.bool true) ∧ Below w.heap.size w w' := by
  obtain ⟨x0, x1, k1, h1, o1⟩ := of_any a0 a1
  obtain ⟨y0, y1, k2, h2, o2⟩ := of_any b0 b1
  obtain ⟨z0, z1, k3, h3, o3⟩ := of_any c0 c1
  have O1 := Lib.hid o1
  have O2 := Lib.hid o2
  have O3 := Lib.hid o3
  clear o1 o2 o3
  cases k1 with
  | false =>
    clear h1 h2 h3
    go_enter Try.func8, Try.ntmps8
    go_wp2_with fail
    refine (alive_any _).mono ?_
    rintro e w' ⟨rfl, rfl⟩
    go_wp2_with fail
    refine (O1.out _).mono ?_
    rintro e w' ⟨rfl, rfl⟩
    go_wp2_with fail
    refine (O2.out _).mono ?_
    rintro e w' ⟨rfl, rfl⟩
    go_wp2_with fail
    refine (O3.out _).mono ?_
    rintro e w' ⟨rfl, rfl⟩
    go_wp2_with fail
    go_ret
    exact ⟨rfl, below_three _ _ _ _⟩
  | true =>
    cases k2 with
    | false =>
      clear h1 h2 h3
      go_enter Try.func8, Try.ntmps8
      go_wp2_with fail
      refine (alive_any _).mono ?_
      rintro e w' ⟨rfl, rfl⟩
      go_wp2_with fail
      refine (O1.out _).mono ?_
      rintro e w' ⟨rfl, rfl⟩
      go_wp2_with fail
      refine (O2.out _).mono ?_
      rintro e w' ⟨rfl, rfl⟩
      go_wp2_with fail
      refine (O3.out _).mono ?_
      rintro e w' ⟨rfl, rfl⟩
      go_wp2_with fail
      go_ret
      exact ⟨rfl, below_three _ _ _ _⟩
    | true =>
      cases k3 with
      | false =>
        clear h1 h2 h3
        go_enter Try.func8, Try.ntmps8
        go_wp2_with fail
        refine (alive_any _).mono ?_
        rintro e w' ⟨rfl, rfl⟩
        go_wp2_with fail
        refine (O1.out _).mono ?_
        rintro e w' ⟨rfl, rfl⟩
        go_wp2_with fail
        refine (O2.out _).mono ?_
        rintro e w' ⟨rfl, rfl⟩
        go_wp2_with fail
        refine (O3.out _).mono ?_
        rintro e w' ⟨rfl, rfl⟩
        go_wp2_with fail
        go_ret
        exact ⟨rfl, below_three _ _ _ _⟩
      | true =>
        have g1 := h1 rfl
        have g2 := h2 rfl
        have g3 := h3 rfl
        clear h1 h2 h3 O1 O2 O3
        obtain ⟨a0, rfl⟩ := Int.eq_ofNat_of_zero_le g1.1
        obtain ⟨a1, rfl⟩ := Int.eq_ofNat_of_zero_le g1.2.2.1
        obtain ⟨b0, rfl⟩ := Int.eq_ofNat_of_zero_le g2.1
        obtain ⟨b1, rfl⟩ := Int.eq_ofNat_of_zero_le g2.2.2.1
        obtain ⟨c0, rfl⟩ := Int.eq_ofNat_of_zero_le g3.1
        obtain ⟨c1, rfl⟩ := Int.eq_ofNat_of_zero_le g3.2.2.1
        exact tollRooms_in a0 a1 b0 b1 c0 c1 w (by omega) (by omega) (by omega) (by omega) (by omega) (by omega)

end Go.Proofs.Ytpfjepmdnhmnaaa
