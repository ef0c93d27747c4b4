/- The walk of the law TollAdds: true for every three numbers; no condition. -/
import Derived.Test.YtpfjepmdnhmnaaaTollSums
namespace Go.Proofs.Ytpfjepmdnhmnaaa
open Go.RowKit
set_option linter.unusedVariables false

theorem sA_rep {x y a b : Nat} (n : Nat) (hx : IsPart x a) (hy : IsPart y b) : sA (List.replicate n (x, y)) = min (a * n) 1099511627776 := by
  unfold sA
  rw [List.map_replicate, tA_eq hx hy, List.sum_replicate_nat, Nat.mul_comm]
theorem sB_rep {x y a b : Nat} (n : Nat) (hx : IsPart x a) (hy : IsPart y b) : sB (List.replicate n (x, y)) = min (b * n) 1099511627776 := by
  unfold sB
  rw [List.map_replicate, tB_eq hx hy, List.sum_replicate_nat, Nat.mul_comm]

theorem rep_snoc {w : World} {base : Nat} {e : TypeId} {v : Value} {k x y : Nat}
    (h : w.ownsRow base e 1 v (k + 1) (List.replicate k (cval (x, y)) ++ [.complex .f64 x y])) : w.ownsRow base e 1 v (k + 1) ((List.replicate (k + 1) (x, y)).map cval) := by
  rw [List.map_replicate, List.replicate_succ']
  exact h

set_option maxHeartbeats 1000000 in
theorem tollAdds_in (a b n : Nat) (w : World) (ha : a ≤ 1048576) (hb : b ≤ 1048576) (hn : n ≤ 60) :
    Calls Try.prog 6 #[.int .i64 a, .int .i64 b, .int .i64 n] w fun e w' => e = .returned (.bool true) ∧ Below w.heap.size w w' := by
  obtain ⟨i0, hi, hz0, hz1, hz2⟩ := info_parts Try.info24
  have px : IsPart (floatOfInt .f64 a) a := part_of (a := (a : Int)) (by omega) (by omega)
  have py : IsPart (floatOfInt .f64 b) b := part_of (a := (b : Int)) (by omega) (by omega)
  have m1 : a * n ≤ 1048576 * 60 := Nat.mul_le_mul ha hn
  have m2 : b * n ≤ 1048576 * 60 := Nat.mul_le_mul hb hn
  have t1 : a * n ≤ 1099511627776 := by omega
  have t2 : b * n ≤ 1099511627776 := by omega
  have pp1 : IsPart (floatOfInt .f64 (a * n : Nat)) (a * n) := part_of (a := ((a * n : Nat) : Int)) (by omega) (by omega)
  have pp2 : IsPart (floatOfInt .f64 (b * n : Nat)) (b * n) := part_of (a := ((b * n : Nat) : Int)) (by omega) (by omega)
  have T := Lib.hid (fun w => times_yes (k := n) w px py (by omega) t1 t2)
  have O := Lib.hid (fun w => of_yes (a : Int) (b : Int) w (by omega) (by omega) (by omega) (by omega))
  have s1 : sA (List.replicate n (floatOfInt .f64 a, floatOfInt .f64 b)) = a * n := by rw [sA_rep n px py, Nat.min_eq_left t1]
  have s2 : sB (List.replicate n (floatOfInt .f64 a, floatOfInt .f64 b)) = b * n := by rw [sB_rep n px py, Nat.min_eq_left t2]
  have S1 := Lib.hid s1
  have S2 := Lib.hid s2
  have L1 : Hid (0 < n → a ≤ a * n) := Lib.hid fun h => Nat.le_mul_of_pos_right a h
  have L2 : Hid (0 < n → b ≤ b * n) := Lib.hid fun h => Nat.le_mul_of_pos_right b h
  clear s1 s2 m1 m2 t1 t2
  generalize floatOfInt .f64 a = x at *
  generalize floatOfInt .f64 b = y at *
  generalize floatOfInt .f64 ((a * n : Nat) : Int) = x' at *
  generalize floatOfInt .f64 ((b * n : Nat) : Int) = y' at *
  go_enter Try.func6, Try.ntmps6
  go_wp2_with fail
  refine (alive_any _).mono ?_
  rintro e w' ⟨rfl, rfl⟩
  go_wp2_with fail
  refine (O.out _).mono ?_
  rintro e w' ⟨rfl, rfl⟩
  go_wp2_with fail
  go_loopw [10, 11] (fun l i wr => ∃ k : Nat, k ≤ n ∧ i = .int .i64 k ∧ wr.ownsRow w.heap.size 24 1 l k ((List.replicate k (x, y)).map cval) ∧ Below w.heap.size w wr) (fun _ i _ => n - (intOf i).toNat)
  case atStart => exact ⟨0, Nat.zero_le _, rfl, World.ownsRow_nil _ _ _ _, Below.refl _ _⟩
  case round =>
    obtain ⟨k, hk, rfl, hown, hbel⟩ := hrel
    by_cases hlt : k < n
    · have hsz := hbel.size
      have HB := Lib.hid hbel
      have HO := Lib.hid hown
      clear hbel hown
      go_wp2_with (at_builtin; refine wpList_append_own _ rfl _ _ 31 rfl w.heap.size 24 i0 (.complex .f64 0 0) 1 16 Try.underlying31 hi hz0 hz1 hz2 rfl (by decide) _ k _ rfl (HO.out.alloc _) ⟨wr.heap.size, 0, none⟩ 1 1 [.complex .f64 x y] rfl rfl ?c1 ?c2 ?c3 ?c4 ?c5 ?_)
      case c1 => exact World.news_of_block (cs := #[.complex .f64 x y]) (t := 24) (fr := (0, 0)) (heap_alloc_new wr _)
      case c2 => simp [Value.oneCell']
      case c3 => unfold maxLen; omega
      case c4 => omega
      case c5 => simp; omega
      intro v' w1 hown1 hgrow _
      have hown2 := rep_snoc hown1
      have hbel2 : Below w.heap.size w w1 := (HB.out.alloc hsz _).grown hgrow (by simp; omega) (fun g hg => (HO.out.lt g hg).1)
      clear hown1 hgrow
      go_wp2_with fail
      go_roundw
      case rel => exact ⟨k + 1, by omega, by go_num, hown2, hbel2⟩
      case measure => simp [intOf]; omega
    · have hk' : k = n := by omega
      subst hk'
      rw [show k = (List.replicate k (x, y)).length from by simp] at hown
      rw [List.length_replicate] at hown
      have hrow : CRow wr _ (List.replicate k (x, y)) := crow_of_own (by rw [List.length_replicate]; exact hown)
      have HR := Lib.hid hrow
      have HB := Lib.hid hbel
      clear hrow hbel hown
      go_wp2_with fail
      refine (sum_any _ HR.out).mono ?_
      rintro e w' ⟨s, rfl, ⟨u1, u2, rfl, p1, p2⟩, rfl⟩
      rw [S1.out] at p1
      rw [S2.out] at p2
      have o1 := part_eq p1 pp1
      have o2 := part_eq p2 pp2
      rw [← fmt64] at o1 o2
      go_wp2_with fail
      refine (T.out _).mono ?_
      rintro e w' ⟨rfl, rfl⟩
      by_cases hk0 : k = 0
      · have hz : ((k : Int) == 0) = true := by simp [hk0]
        have HK := Lib.hid hk0
        clear hk0
        go_wp2_with fail
        go_ret
        exact ⟨rfl, HB.out⟩
      · have hz : ((k : Int) == 0) = false := by simp; omega
        have F := fits_yes wr px py p1 p2
        rw [decide_eq_true (show a ≤ a * k ∧ b ≤ b * k from ⟨L1.out (by omega), L2.out (by omega)⟩)] at F
        have HF := Lib.hid F
        clear F hk0
        go_wp2_with fail
        refine (HF.out).mono ?_
        rintro e w' ⟨rfl, rfl⟩
        go_wp2_with fail
        go_ret
        exact ⟨rfl, HB.out⟩

set_option maxHeartbeats 400000 in
theorem tollAdds_out (a b n : Int) (w : World) (h : ¬ (0 ≤ a ∧ 0 ≤ b ∧ a ≤ 1048576 ∧ b ≤ 1048576 ∧ 0 ≤ n ∧ n ≤ 60)) :
    Calls Try.prog 6 #[.int .i64 a, .int .i64 b, .int .i64 n] w fun e w' => e = .returned (.bool true) ∧ Below w.heap.size w w' := by
  have hc : a < 0 ∨ (0 ≤ a ∧ b < 0) ∨ (0 ≤ a ∧ 0 ≤ b ∧ 1048576 < a) ∨ (0 ≤ a ∧ 0 ≤ b ∧ a ≤ 1048576 ∧ 1048576 < b) ∨ (0 ≤ a ∧ 0 ≤ b ∧ a ≤ 1048576 ∧ b ≤ 1048576 ∧ n < 0) ∨ (0 ≤ a ∧ 0 ≤ b ∧ a ≤ 1048576 ∧ b ≤ 1048576 ∧ 0 ≤ n ∧ 60 < n) := by omega
  clear h
  rcases hc with h1 | ⟨h1, h2⟩ | ⟨h1, h2, h3⟩ | ⟨h1, h2, h3, h4⟩ | ⟨h1, h2, h3, h4, h5⟩ | ⟨h1, h2, h3, h4, h5, h6⟩
  all_goals
    go_enter Try.func6, Try.ntmps6
    go_wp2_with fail
    refine (alive_any _).mono ?_
    rintro e w' ⟨rfl, rfl⟩
    go_wp2_with fail
    all_goals (go_ret; exact ⟨rfl, Below.refl _ _⟩)

theorem tollAdds_any (a b n : Int) (w : World) :
    Calls Try.prog 6 #[.int .i64 a, .int .i64 b, .int .i64 n] w fun e w' => e = .returned (.bool true) ∧ Below w.heap.size w w' := by
  by_cases h : 0 ≤ a ∧ 0 ≤ b ∧ a ≤ 1048576 ∧ b ≤ 1048576 ∧ 0 ≤ n ∧ n ≤ 60
  · obtain ⟨a, rfl⟩ := Int.eq_ofNat_of_zero_le h.1
    obtain ⟨b, rfl⟩ := Int.eq_ofNat_of_zero_le h.2.1
    obtain ⟨n, rfl⟩ := Int.eq_ofNat_of_zero_le h.2.2.2.2.1
    exact tollAdds_in a b n w (by omega) (by omega) (by omega)
  · exact tollAdds_out a b n w h

end Go.Proofs.Ytpfjepmdnhmnaaa
