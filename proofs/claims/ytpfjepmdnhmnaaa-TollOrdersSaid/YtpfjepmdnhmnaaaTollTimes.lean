/- The walks of Times, Fits and of what they call, of package toll and of the document's own answers; each theorem names its own conditions. -/
import Derived.Test.YtpfjepmdnhmnaaaTollWalks
namespace Go.Proofs.Ytpfjepmdnhmnaaa
open Go.RowKit

theorem part_two : IsPart 4611686018427387904 2 := ⟨⟨false, 2 ^ 52, -51, rfl, ⟨51, by omega, rfl⟩, by simp⟩, by omega⟩
theorem part_three : IsPart 4613937818241073152 3 := ⟨⟨false, 3 * 2 ^ 51, -51, rfl, ⟨51, by omega, rfl⟩, by simp⟩, by omega⟩
theorem part_nought : IsPart 0 0 := ⟨Nv.nought, by omega⟩
theorem part_of {a : Int} (h0 : 0 ≤ a) (h1 : a ≤ 1099511627776) : IsPart (floatOfInt .f64 a) a.toNat := by
  obtain ⟨n, rfl⟩ := Int.eq_ofNat_of_zero_le h0
  exact ⟨ofInt_val (by omega), by omega⟩
theorem part_eq {x y n : Nat} (h : IsPart x n) (g : IsPart y n) : Ieee.double.order x y = some .eq := by
  rw [order_val h.1 g.1, cmp_nat, if_neg (by omega), if_pos rfl]

set_option maxHeartbeats 400000 in
theorem valid_yes {x y a b : Nat} (w : World) (hx : IsPart x a) (hy : IsPart y b) :
    Calls Try.prog 22 #[.complex .f64 x y] w fun e w' => e = .returned (.bool true) ∧ w = w' := by
  go_enter Try.func22, Try.ntmps22
  go_wp2_with fail
  refine (parts_yes _ hx hy).mono ?_
  rintro e w' ⟨rfl, rfl⟩
  go_wp2_with fail
  go_ret
  exact ⟨rfl, rfl⟩

set_option maxHeartbeats 400000 in
theorem valid_no {x y : Nat} (w : World) (h : ¬ IsToll x y) :
    Calls Try.prog 22 #[.complex .f64 x y] w fun e w' => e = .returned (.bool false) ∧ w = w' := by
  go_enter Try.func22, Try.ntmps22
  go_wp2_with fail
  refine (parts_no _ h).mono ?_
  rintro e w' ⟨rfl, rfl⟩
  go_wp2_with fail
  go_ret
  exact ⟨rfl, rfl⟩

/-- A word that is that product, or too great as the product is. -/
def Prod (r m : Nat) : Prop := ∃ c, Nv r c ∧ (m ≤ 1099511627776 → c = m) ∧ (1099511627776 < m → 1099511627776 < c)

theorem prod_bits {x y z a b k : Nat} (hx : IsPart x a) (hy : IsPart y b) (hz : Nv z k) (hk : k ≤ 1048576) :
    ∃ re im, cMulBits x y z 0 = some (re, im) ∧ Prod re (a * k) ∧ Prod im (b * k) := by
  have ba : a * k ≤ 1099511627776 * 1048576 := Nat.mul_le_mul hx.2 hk
  have bb : b * k ≤ 1099511627776 * 1048576 := Nat.mul_le_mul hy.2 hk
  have g2 : (1099511627776 : Nat) < 2 ^ 53 := by decide
  obtain ⟨r1, c1, e1, v1, s1, t1⟩ := mul_val hx.1 hz (Nat.lt_of_le_of_lt ba (by decide))
  obtain ⟨r2, c2, e2, v2, s2, -⟩ := mul_val hy.1 Nv.nought (by rw [Nat.mul_zero]; decide)
  obtain ⟨r3, c3, e3, v3, s3, -⟩ := mul_val hx.1 Nv.nought (by rw [Nat.mul_zero]; decide)
  obtain ⟨r4, c4, e4, v4, s4, t4⟩ := mul_val hy.1 hz (Nat.lt_of_le_of_lt bb (by decide))
  have z2 : c2 = 0 := by rw [s2 (by rw [Nat.mul_zero]; decide), Nat.mul_zero]
  have z3 : c3 = 0 := by rw [s3 (by rw [Nat.mul_zero]; decide), Nat.mul_zero]
  subst z2 z3
  have l1 : c1 ≤ 1099511627776 * 1048576 * 2 := by
    rcases Nat.lt_or_ge (a * k) (2 ^ 53) with h | h
    · have := s1 h; omega
    · have := (t1 h).2; omega
  have l4 : c4 ≤ 1099511627776 * 1048576 * 2 := by
    rcases Nat.lt_or_ge (b * k) (2 ^ 53) with h | h
    · have := s4 h; omega
    · have := (t4 h).2; omega
  obtain ⟨r5, c5, e5, v5, s5, t5⟩ := sub_val v1 v2 (Nat.lt_of_le_of_lt l1 (by decide))
  obtain ⟨r6, c6, e6, v6, s6, t6⟩ := add_val v3 v4 (by rw [Nat.zero_add]; exact Nat.lt_of_le_of_lt l4 (by decide))
  rw [Nat.zero_add] at s6 t6
  refine ⟨r5, r6, ?_, ⟨c5, v5, ?_, ?_⟩, ⟨c6, v6, ?_, ?_⟩⟩
  · unfold cMulBits floatBits
    rw [fmt64]
    simp only [e1, e2, e3, e4, e5, e6, Option.bind_some]
  · intro h
    have q := s1 (by omega)
    rw [s5 (by omega)]
    exact q
  · intro h
    rcases Nat.lt_or_ge (a * k) (2 ^ 53) with g | g
    · have q := s1 g
      have := s5 (by omega)
      omega
    · have q := (t1 g).1
      have := (t5 q).1
      omega
  · intro h
    have q := s4 (by omega)
    rw [s6 (by omega)]
    exact q
  · intro h
    rcases Nat.lt_or_ge (b * k) (2 ^ 53) with g | g
    · have q := s4 g
      have := s6 (by omega)
      omega
    · have q := (t4 g).1
      have := (t6 q).1
      omega

theorem Prod.part {r m : Nat} (h : Prod r m) (hm : m ≤ 1099511627776) : IsPart r m := by
  obtain ⟨c, v, s, _⟩ := h
  rw [s hm] at v
  exact ⟨v, hm⟩
theorem Prod.no {r m : Nat} (h : Prod r m) (hm : 1099511627776 < m) : ¬ ∃ c, IsPart r c := by
  obtain ⟨c, v, _, t⟩ := h
  rintro ⟨c', v', l⟩
  have := v.unique v'
  have := t hm
  omega

theorem run_prod {x y z re im : Nat} (h : cMulBits x y z 0 = some (re, im)) (w : World) (t : TypeId) :
    (binOp .mul t (.complex .f64 x y) (.complex .f64 z 0)).run Try.prog w = .ok (.complex .f64 re im) w :=
  run_complex_mul w t x y z 0 re im h

/-- Times, where both parts of the product are parts. -/
theorem times_yes {x y a b k : Nat} (w : World) (hx : IsPart x a) (hy : IsPart y b) (hk : k ≤ 1048576) (h1 : a * k ≤ 1099511627776) (h2 : b * k ≤ 1099511627776) :
    Calls Try.prog 16 #[.complex .f64 x y, .int .i64 k] w fun e w' => e = .returned (.tuple #[.complex .f64 (floatOfInt .f64 (a * k : Nat)) (floatOfInt .f64 (b * k : Nat)), .bool true]) ∧ w = w' := by
  obtain ⟨re, im, e, p1, p2⟩ := prod_bits hx hy (ofInt_val (n := k) (Nat.lt_of_le_of_lt hk (by decide))) hk
  have q1 := p1.part h1
  have q2 := p2.part h2
  have m := fun w => run_prod e w 24
  generalize a * k = m1 at *
  generalize b * k = m2 at *
  clear e
  go_enter Try.func16, Try.ntmps16
  go_wp2_with fail
  refine (valid_yes _ hx hy).mono ?_
  rintro e w' ⟨rfl, rfl⟩
  go_wp2_with fail
  refine (parts_yes _ q1 q2).mono ?_
  rintro e w' ⟨rfl, rfl⟩
  go_wp2_with fail
  refine (of_yes _ _ _ (by omega) (by omega) (by omega) (by omega)).mono ?_
  rintro e w' ⟨rfl, rfl⟩
  go_wp2_with fail
  go_ret2
  exact ⟨rfl, rfl⟩

/-- Times, where a part of the product is too great. -/
theorem times_great {x y a b k : Nat} (w : World) (hx : IsPart x a) (hy : IsPart y b) (hk : k ≤ 1048576) (h : 1099511627776 < a * k ∨ 1099511627776 < b * k) :
    Calls Try.prog 16 #[.complex .f64 x y, .int .i64 k] w fun e w' => e = .returned (.tuple #[.complex .f64 0 0, .bool false]) ∧ w = w' := by
  obtain ⟨re, im, e, p1, p2⟩ := prod_bits hx hy (ofInt_val (n := k) (Nat.lt_of_le_of_lt hk (by decide))) hk
  have q : ¬ IsToll re im := by
    rintro ⟨c, d, hc, hd⟩
    rcases h with h | h
    · exact p1.no h ⟨c, hc⟩
    · exact p2.no h ⟨d, hd⟩
  have m := fun w => run_prod e w 24
  clear e h p1 p2
  go_enter Try.func16, Try.ntmps16
  go_wp2_with fail
  refine (valid_yes _ hx hy).mono ?_
  rintro e w' ⟨rfl, rfl⟩
  go_wp2_with fail
  refine (parts_no _ q).mono ?_
  rintro e w' ⟨rfl, rfl⟩
  go_wp2_with fail
  go_ret2
  exact ⟨rfl, rfl⟩

/-- Times, of what is no toll. -/
theorem times_none {x y : Nat} {n : Int} (w : World) (hx : ¬ IsToll x y) :
    Calls Try.prog 16 #[.complex .f64 x y, .int .i64 n] w fun e w' => e = .returned (.tuple #[.complex .f64 0 0, .bool false]) ∧ w = w' := by
  go_enter Try.func16, Try.ntmps16
  go_wp2_with fail
  refine (valid_no _ hx).mono ?_
  rintro e w' ⟨rfl, rfl⟩
  go_wp2_with fail
  go_ret2
  exact ⟨rfl, rfl⟩

/-- Times, by a number that is out of bounds. -/
theorem times_out {x y a b : Nat} {n : Int} (w : World) (hx : IsPart x a) (hy : IsPart y b) (h : n < 0 ∨ 1048576 < n) :
    Calls Try.prog 16 #[.complex .f64 x y, .int .i64 n] w fun e w' => e = .returned (.tuple #[.complex .f64 0 0, .bool false]) ∧ w = w' := by
  rcases Int.lt_or_le n 0 with h1 | h1
  · clear h
    go_enter Try.func16, Try.ntmps16
    go_wp2_with fail
    refine (valid_yes _ hx hy).mono ?_
    rintro e w' ⟨rfl, rfl⟩
    go_wp2_with fail
    go_ret2
    exact ⟨rfl, rfl⟩
  · have h2 : 1048576 < n := by omega
    clear h
    go_enter Try.func16, Try.ntmps16
    go_wp2_with fail
    refine (valid_yes _ hx hy).mono ?_
    rintro e w' ⟨rfl, rfl⟩
    go_wp2_with fail
    go_ret2
    exact ⟨rfl, rfl⟩

/-- The document's own Times, where both parts of the product are parts. -/
theorem rtimes_yes {x y a b k : Nat} (w : World) (hx : IsPart x a) (hy : IsPart y b) (hk : k ≤ 1048576) (h1 : a * k ≤ 1099511627776) (h2 : b * k ≤ 1099511627776) :
    Calls Try.prog 17 #[.complex .f64 x y, .int .i64 k] w fun e w' => e = .returned (.tuple #[.complex .f64 (floatOfInt .f64 (a * k : Nat)) (floatOfInt .f64 (b * k : Nat)), .bool true]) ∧ w = w' := by
  have m1 : (a : Int) * k ≤ 1099511627776 := by omega
  have m2 : (b : Int) * k ≤ 1099511627776 := by omega
  have n1 : 0 ≤ (a : Int) * k := Int.mul_nonneg (by omega) (by omega)
  have n2 : 0 ≤ (b : Int) * k := Int.mul_nonneg (by omega) (by omega)
  rw [Int.natCast_mul, Int.natCast_mul]
  go_enter Try.func17, Try.ntmps17
  go_wp2_with fail
  refine (rparts_yes _ hx hy).mono ?_
  rintro e w' ⟨rfl, rfl⟩
  go_wp2_with fail
  refine (rof_yes _ _ _ n1 m1 n2 m2).mono ?_
  rintro e w' ⟨rfl, rfl⟩
  go_wp2_with fail
  go_ret2
  exact ⟨rfl, rfl⟩

/-- The document's own Times, where a part of the product is too great. -/
theorem rtimes_great {x y a b k : Nat} (w : World) (hx : IsPart x a) (hy : IsPart y b) (hk : k ≤ 1048576) (h : 1099511627776 < a * k ∨ 1099511627776 < b * k) :
    Calls Try.prog 17 #[.complex .f64 x y, .int .i64 k] w fun e w' => e = .returned (.tuple #[.complex .f64 0 0, .bool false]) ∧ w = w' := by
  have n1 : 0 ≤ (a : Int) * k := Int.mul_nonneg (by omega) (by omega)
  have n2 : 0 ≤ (b : Int) * k := Int.mul_nonneg (by omega) (by omega)
  have l1 : (a : Int) * k ≤ 1152921504606846976 := by have := Nat.mul_le_mul hx.2 hk; omega
  have l2 : (b : Int) * k ≤ 1152921504606846976 := by have := Nat.mul_le_mul hy.2 hk; omega
  by_cases h1 : 1099511627776 < a * k
  · have m1 : 1099511627776 < (a : Int) * k := by omega
    clear h h1
    go_enter Try.func17, Try.ntmps17
    go_wp2_with fail
    refine (rparts_yes _ hx hy).mono ?_
    rintro e w' ⟨rfl, rfl⟩
    go_wp2_with fail
    go_ret2
    exact ⟨rfl, rfl⟩
  · have m1 : (a : Int) * k ≤ 1099511627776 := by omega
    have m2 : 1099511627776 < (b : Int) * k := by omega
    clear h h1
    go_enter Try.func17, Try.ntmps17
    go_wp2_with fail
    refine (rparts_yes _ hx hy).mono ?_
    rintro e w' ⟨rfl, rfl⟩
    go_wp2_with fail
    go_ret2
    exact ⟨rfl, rfl⟩

/-- The document's own Times, of what is no toll. -/
theorem rtimes_none {x y : Nat} {n : Int} (w : World) (hx : ¬ IsToll x y) :
    Calls Try.prog 17 #[.complex .f64 x y, .int .i64 n] w fun e w' => e = .returned (.tuple #[.complex .f64 0 0, .bool false]) ∧ w = w' := by
  go_enter Try.func17, Try.ntmps17
  go_wp2_with fail
  refine (rparts_no _ hx).mono ?_
  rintro e w' ⟨rfl, rfl⟩
  go_wp2_with fail
  go_ret2
  exact ⟨rfl, rfl⟩

/-- The document's own Times, by a number that is out of bounds. -/
theorem rtimes_out {x y a b : Nat} {n : Int} (w : World) (hx : IsPart x a) (hy : IsPart y b) (h : n < 0 ∨ 1048576 < n) :
    Calls Try.prog 17 #[.complex .f64 x y, .int .i64 n] w fun e w' => e = .returned (.tuple #[.complex .f64 0 0, .bool false]) ∧ w = w' := by
  rcases Int.lt_or_le n 0 with h1 | h1
  · clear h
    go_enter Try.func17, Try.ntmps17
    go_wp2_with fail
    refine (rparts_yes _ hx hy).mono ?_
    rintro e w' ⟨rfl, rfl⟩
    go_wp2_with fail
    go_ret2
    exact ⟨rfl, rfl⟩
  · have h2 : 1048576 < n := by omega
    clear h
    go_enter Try.func17, Try.ntmps17
    go_wp2_with fail
    refine (rparts_yes _ hx hy).mono ?_
    rintro e w' ⟨rfl, rfl⟩
    go_wp2_with fail
    go_ret2
    exact ⟨rfl, rfl⟩

theorem part_cmp {x y a b : Nat} (h : IsPart x a) (g : IsPart y b) : (a < b ∧ Ieee.double.order x y = some .lt) ∨ (a = b ∧ Ieee.double.order x y = some .eq) ∨ (b < a ∧ Ieee.double.order x y = some .gt) := by
  rw [order_val h.1 g.1, cmp_nat]
  rcases Nat.lt_trichotomy a b with h1 | h1 | h1
  · exact Or.inl ⟨h1, by rw [if_pos h1]⟩
  · exact Or.inr (Or.inl ⟨h1, by rw [if_neg (by omega), if_pos h1]⟩)
  · exact Or.inr (Or.inr ⟨h1, by rw [if_neg (by omega), if_neg (by omega)]⟩)

set_option maxHeartbeats 400000 in
/-- Fits, of two tolls. -/
theorem fits_yes {x y u v a b c d : Nat} (w : World) (hx : IsPart x a) (hy : IsPart y b) (hu : IsPart u c) (hv : IsPart v d) :
    Calls Try.prog 18 #[.complex .f64 x y, .complex .f64 u v] w fun e w' => e = .returned (.bool (decide (a ≤ c ∧ b ≤ d))) ∧ w = w' := by
  rcases part_cmp hx hu with ⟨h1, o1⟩ | ⟨h1, o1⟩ | ⟨h1, o1⟩ <;> rcases part_cmp hy hv with ⟨h2, o2⟩ | ⟨h2, o2⟩ | ⟨h2, o2⟩
  all_goals
    rw [← fmt64] at o1 o2
    have H1 := Lib.hid h1
    have H2 := Lib.hid h2
    clear h1 h2
    go_enter Try.func18, Try.ntmps18
    go_wp2_with fail
    refine (valid_yes _ hx hy).mono ?_
    rintro e w' ⟨rfl, rfl⟩
    go_wp2_with fail
    refine (valid_yes _ hu hv).mono ?_
    rintro e w' ⟨rfl, rfl⟩
    go_wp2_with fail
    go_ret
    have h1 := H1.out
    have h2 := H2.out
    first
      | (rw [show decide (a ≤ c ∧ b ≤ d) = true from decide_eq_true (by omega)]; exact ⟨rfl, rfl⟩)
      | (rw [show decide (a ≤ c ∧ b ≤ d) = false from decide_eq_false (by omega)]; exact ⟨rfl, rfl⟩)

set_option maxHeartbeats 400000 in
/-- Fits, where one is no toll. -/
theorem fits_no {x y u v : Nat} (w : World) (h : ¬ (IsToll x y ∧ IsToll u v)) :
    Calls Try.prog 18 #[.complex .f64 x y, .complex .f64 u v] w fun e w' => e = .returned (.bool false) ∧ w = w' := by
  by_cases h1 : IsToll x y
  · have h2 : ¬ IsToll u v := fun h2 => h ⟨h1, h2⟩
    obtain ⟨a, b, ha, hb⟩ := h1
    clear h
    go_enter Try.func18, Try.ntmps18
    go_wp2_with fail
    refine (valid_yes _ ha hb).mono ?_
    rintro e w' ⟨rfl, rfl⟩
    go_wp2_with fail
    refine (valid_no _ h2).mono ?_
    rintro e w' ⟨rfl, rfl⟩
    go_wp2_with fail
    go_ret
    exact ⟨rfl, rfl⟩
  · clear h
    go_enter Try.func18, Try.ntmps18
    go_wp2_with fail
    refine (valid_no _ h1).mono ?_
    rintro e w' ⟨rfl, rfl⟩
    go_wp2_with fail
    go_ret
    exact ⟨rfl, rfl⟩

set_option maxHeartbeats 400000 in
/-- The document's own Fits, of two tolls. -/
theorem rfits_yes {x y u v a b c d : Nat} (w : World) (hx : IsPart x a) (hy : IsPart y b) (hu : IsPart u c) (hv : IsPart v d) :
    Calls Try.prog 19 #[.complex .f64 x y, .complex .f64 u v] w fun e w' => e = .returned (.bool (decide (a ≤ c ∧ b ≤ d))) ∧ w = w' := by
  by_cases h1 : a ≤ c <;> by_cases h2 : b ≤ d
  all_goals
    go_enter Try.func19, Try.ntmps19
    go_wp2_with fail
    refine (rparts_yes _ hx hy).mono ?_
    rintro e w' ⟨rfl, rfl⟩
    go_wp2_with fail
    refine (rparts_yes _ hu hv).mono ?_
    rintro e w' ⟨rfl, rfl⟩
    go_wp2_with fail
    go_ret
    first
      | (rw [show decide (a ≤ c ∧ b ≤ d) = true from decide_eq_true (by omega)]; exact ⟨rfl, rfl⟩)
      | (rw [show decide (a ≤ c ∧ b ≤ d) = false from decide_eq_false (by omega)]; exact ⟨rfl, rfl⟩)

set_option maxHeartbeats 400000 in
/-- The document's own Fits, where one is no toll. -/
theorem rfits_no {x y u v : Nat} (w : World) (h : ¬ (IsToll x y ∧ IsToll u v)) :
    Calls Try.prog 19 #[.complex .f64 x y, .complex .f64 u v] w fun e w' => e = .returned (.bool false) ∧ w = w' := by
  by_cases h1 : IsToll x y
  · have h2 : ¬ IsToll u v := fun h2 => h ⟨h1, h2⟩
    obtain ⟨a, b, ha, hb⟩ := h1
    clear h
    go_enter Try.func19, Try.ntmps19
    go_wp2_with fail
    refine (rparts_yes _ ha hb).mono ?_
    rintro e w' ⟨rfl, rfl⟩
    go_wp2_with fail
    refine (rparts_no _ h2).mono ?_
    rintro e w' ⟨rfl, rfl⟩
    go_wp2_with fail
    go_ret
    exact ⟨rfl, rfl⟩
  · by_cases h2 : IsToll u v
    · obtain ⟨a, b, ha, hb⟩ := h2
      clear h
      go_enter Try.func19, Try.ntmps19
      go_wp2_with fail
      refine (rparts_no _ h1).mono ?_
      rintro e w' ⟨rfl, rfl⟩
      go_wp2_with fail
      refine (rparts_yes _ ha hb).mono ?_
      rintro e w' ⟨rfl, rfl⟩
      go_wp2_with fail
      go_ret
      exact ⟨rfl, rfl⟩
    · clear h
      go_enter Try.func19, Try.ntmps19
      go_wp2_with fail
      refine (rparts_no _ h1).mono ?_
      rintro e w' ⟨rfl, rfl⟩
      go_wp2_with fail
      refine (rparts_no _ h2).mono ?_
      rintro e w' ⟨rfl, rfl⟩
      go_wp2_with fail
      go_ret
      exact ⟨rfl, rfl⟩

end Go.Proofs.Ytpfjepmdnhmnaaa
