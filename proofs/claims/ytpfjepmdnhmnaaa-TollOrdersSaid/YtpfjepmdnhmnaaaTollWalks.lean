/- The walks of package toll and of the document's own answers on tolls: what each call returns, said of float64 words; each theorem names its own conditions. -/
import Derived.Test.YtpfjepmdnhmnaaaRows
import Derived.WalkKit
import Derived.WalkSpells
import Derived.WalkLawsBesides
import Derived.Lib.Hide
import Derived.Deep.QuietTactic
import Derived.BigQuiet
import Derived.Test.YtpfjepmdnhmnaaaTollNum
namespace Go.Proofs.Ytpfjepmdnhmnaaa
open Go.RowKit

def inB (x : Nat) : Bool := (Ieee.double.order x 0 == some .gt || Ieee.double.order x 0 == some .eq) && (Ieee.double.order x 4787326403894837248 == some .lt || Ieee.double.order x 4787326403894837248 == some .eq)

theorem fmt64 : FloatKind.f64.format = Ieee.double := rfl

set_option maxHeartbeats 400000 in
theorem within_any (x : Nat) (w : World) :
    Calls Try.prog 20 #[.float .f64 x] w fun e w' => e = .returned (.bool (inB x)) ∧ w = w' := by
  go_enter Try.func20, Try.ntmps20
  go_wp2
  · go_ret
    rename_i h
    refine ⟨?_, rfl⟩
    unfold inB
    rw [fmt64] at h ⊢
    rcases h with h | h <;> simp [h]
  · go_ret
    rename_i h
    refine ⟨?_, rfl⟩
    unfold inB
    rw [fmt64] at h
    congr 2
    simp at h
    simp [h]

theorem of_yes (a b : Int) (w : World) (ha : 0 ≤ a) (ha' : a ≤ 1099511627776) (hb : 0 ≤ b) (hb' : b ≤ 1099511627776) :
    Calls Try.prog 10 #[.int .i64 a, .int .i64 b] w fun e w' => e = .returned (.tuple #[.complex .f64 (floatOfInt .f64 a) (floatOfInt .f64 b), .bool true]) ∧ w = w' := by
  go_enter Try.func10, Try.ntmps10
  go_wp2
  go_ret2
  exact ⟨rfl, rfl⟩

theorem of_no (a b : Int) (w : World) (h : a < 0 ∨ 1099511627776 < a ∨ b < 0 ∨ 1099511627776 < b) :
    Calls Try.prog 10 #[.int .i64 a, .int .i64 b] w fun e w' => e = .returned (.tuple #[.complex .f64 0 0, .bool false]) ∧ w = w' := by
  rcases Int.lt_or_le a 0 with h1 | h1
  · clear h
    go_enter Try.func10, Try.ntmps10
    go_wp2
    all_goals (go_ret2; exact ⟨rfl, rfl⟩)
  · rcases Int.lt_or_le 1099511627776 a with h2 | h2
    · clear h
      go_enter Try.func10, Try.ntmps10
      go_wp2
      all_goals (go_ret2; exact ⟨rfl, rfl⟩)
    · rcases Int.lt_or_le b 0 with h3 | h3
      · clear h
        go_enter Try.func10, Try.ntmps10
        go_wp2
        all_goals (go_ret2; exact ⟨rfl, rfl⟩)
      · have h4 : 1099511627776 < b := by omega
        clear h
        go_enter Try.func10, Try.ntmps10
        go_wp2
        all_goals (go_ret2; exact ⟨rfl, rfl⟩)

theorem rof_yes (a b : Int) (w : World) (ha : 0 ≤ a) (ha' : a ≤ 1099511627776) (hb : 0 ≤ b) (hb' : b ≤ 1099511627776) :
    Calls Try.prog 11 #[.int .i64 a, .int .i64 b] w fun e w' => e = .returned (.tuple #[.complex .f64 (floatOfInt .f64 a) (floatOfInt .f64 b), .bool true]) ∧ w = w' := by
  go_enter Try.func11, Try.ntmps11
  go_wp2
  go_ret2
  exact ⟨rfl, rfl⟩

theorem rof_no (a b : Int) (w : World) (h : a < 0 ∨ 1099511627776 < a ∨ b < 0 ∨ 1099511627776 < b) :
    Calls Try.prog 11 #[.int .i64 a, .int .i64 b] w fun e w' => e = .returned (.tuple #[.complex .f64 0 0, .bool false]) ∧ w = w' := by
  rcases Int.lt_or_le a 0 with h1 | h1
  · clear h
    go_enter Try.func11, Try.ntmps11
    go_wp2
    all_goals (go_ret2; exact ⟨rfl, rfl⟩)
  · rcases Int.lt_or_le 1099511627776 a with h2 | h2
    · clear h
      go_enter Try.func11, Try.ntmps11
      go_wp2
      all_goals (go_ret2; exact ⟨rfl, rfl⟩)
    · rcases Int.lt_or_le b 0 with h3 | h3
      · clear h
        go_enter Try.func11, Try.ntmps11
        go_wp2
        all_goals (go_ret2; exact ⟨rfl, rfl⟩)
      · have h4 : 1099511627776 < b := by omega
        clear h
        go_enter Try.func11, Try.ntmps11
        go_wp2
        all_goals (go_ret2; exact ⟨rfl, rfl⟩)


/-- What Parts looks at beyond the bounds: that the cut part is the part. -/
def eqB (m : Int) (x : Nat) : Bool := Ieee.double.order (floatOfInt .f64 m) x == some .eq

/-- The part of a word: a whole number from nought to 2^40. -/
def IsPart (x n : Nat) : Prop := Nv x n ∧ n ≤ 1099511627776

theorem inB_part {x n : Nat} (h : IsPart x n) : inB x = true := by
  unfold inB
  rw [order_val h.1 Nv.nought, order_val h.1 most_val, cmp_nat, cmp_nat]
  have := h.2
  have a : ¬ n < 0 := by omega
  rw [if_neg a]
  by_cases h0 : n = 0
  · subst h0; rfl
  · rw [if_neg h0]
    rcases Nat.lt_or_eq_of_le h.2 with h | h
    · rw [if_pos h]; rfl
    · subst h; rfl

theorem eqB_part {x n : Nat} (h : IsPart x n) : eqB n x = true := by
  unfold eqB
  rw [order_val (ofInt_val (n := n) (by have := h.2; omega)) h.1, cmp_nat, if_neg (by omega), if_pos rfl]
  rfl

theorem cut_part {x n : Nat} (h : IsPart x n) : floatToIntVal .f64 x .i64 = some (n : Int) := by
  unfold floatToIntVal
  have : (FloatKind.f64.decode x).toInt .zero = some (n : Int) := toInt_dv h.1
  rw [this]
  have := h.2
  have e : IntKind.i64.min ≤ (n : Int) ∧ (n : Int) ≤ IntKind.i64.max := by
    have a : IntKind.i64.min = -9223372036854775808 := rfl
    have b : IntKind.i64.max = 9223372036854775807 := rfl
    omega
  simp only [e.1, e.2, and_self, if_true]

theorem cut_in {x : Nat} (h : inB x = true) : ∃ m : Nat, m ≤ 1099511627776 ∧ floatToIntVal .f64 x .i64 = some (m : Int) ∧ (eqB m x = true → IsPart x m) := by
  unfold inB at h
  simp at h
  obtain ⟨m, hm, ht, he⟩ := toInt_within h.1 h.2
  refine ⟨m, hm, ?_, ?_⟩
  · unfold floatToIntVal
    have : (FloatKind.f64.decode x).toInt .zero = some (m : Int) := ht
    rw [this]
    have e : IntKind.i64.min ≤ (m : Int) ∧ (m : Int) ≤ IntKind.i64.max := by
      have a : IntKind.i64.min = -9223372036854775808 := rfl
      have b : IntKind.i64.max = 9223372036854775807 := rfl
      omega
    simp only [e.1, e.2, and_self, if_true]
  · intro hq
    unfold eqB at hq
    exact ⟨he m hm (by simpa using hq), hm⟩

theorem IsPart.unique {x n n' : Nat} (h : IsPart x n) (h' : IsPart x n') : n = n' := h.1.unique h'.1

theorem run_cut {x : Nat} {m : Int} (h : floatToIntVal .f64 x .i64 = some m) (w : World) :
    (convert 22 3 (.float .f64 x)).run Try.prog w = .ok (.int .i64 m) w :=
  run_convert_float_int w _ _ .f64 .i64 x m (by kernel_rfl) Try.underlying3 h

set_option maxHeartbeats 400000 in
theorem parts_yes {x y a b : Nat} (w : World) (hx : IsPart x a) (hy : IsPart y b) :
    Calls Try.prog 12 #[.complex .f64 x y] w fun e w' => e = .returned (.tuple #[.int .i64 a, .int .i64 b, .bool true]) ∧ w = w' := by
  have c1 := run_cut (cut_part hx)
  have c2 := run_cut (cut_part hy)
  have i1 := inB_part hx
  have i2 := inB_part hy
  have e1 := eqB_part hx
  have e2 := eqB_part hy
  unfold eqB at e1 e2
  rw [← fmt64] at e1 e2
  go_enter Try.func12, Try.ntmps12
  go_wp2_with (go_at_call 20; refine (within_any _ _).mono ?_; rintro e w' ⟨rfl, rfl⟩)
  go_ret3
  exact ⟨rfl, rfl⟩

/-- Both parts of a complex number are parts of a toll. -/
def IsToll (x y : Nat) : Prop := ∃ a b, IsPart x a ∧ IsPart y b

set_option maxHeartbeats 400000 in
theorem parts_no {x y : Nat} (w : World) (h : ¬ IsToll x y) :
    Calls Try.prog 12 #[.complex .f64 x y] w fun e w' => e = .returned (.tuple #[.int .i64 0, .int .i64 0, .bool false]) ∧ w = w' := by
  cases i1 : inB x with
  | false =>
    clear h
    go_enter Try.func12, Try.ntmps12
    go_wp2_with (go_at_call 20; refine (within_any _ _).mono ?_; rintro e w' ⟨rfl, rfl⟩)
    all_goals (go_ret3; exact ⟨rfl, rfl⟩)
  | true =>
    cases i2 : inB y with
    | false =>
      clear h
      go_enter Try.func12, Try.ntmps12
      go_wp2_with (go_at_call 20; refine (within_any _ _).mono ?_; rintro e w' ⟨rfl, rfl⟩)
      all_goals (go_ret3; exact ⟨rfl, rfl⟩)
    | true =>
      obtain ⟨m1, l1, k1, q1⟩ := cut_in i1
      obtain ⟨m2, l2, k2, q2⟩ := cut_in i2
      have c1 := run_cut k1
      have c2 := run_cut k2
      have e : eqB m1 x = false ∨ eqB m2 y = false := by
        cases e1 : eqB m1 x
        · exact Or.inl rfl
        · cases e2 : eqB m2 y
          · exact Or.inr rfl
          · exact absurd ⟨m1, m2, q1 e1, q2 e2⟩ h
      clear h q1 q2 k1 k2
      unfold eqB at e
      rw [← fmt64] at e
      rcases e with e | e
      all_goals
        go_enter Try.func12, Try.ntmps12
        go_wp2_with (go_at_call 20; refine (within_any _ _).mono ?_; rintro e w' ⟨rfl, rfl⟩)
        all_goals (go_ret3; exact ⟨rfl, rfl⟩)

theorem inB_true {x : Nat} (h : inB x = true) : (Ieee.double.order x 0 = some .gt ∨ Ieee.double.order x 0 = some .eq) ∧ (Ieee.double.order x 4787326403894837248 = some .lt ∨ Ieee.double.order x 4787326403894837248 = some .eq) := by
  unfold inB at h
  simpa using h

theorem order_not_none {x : Nat} {o : Ordering} (h : Ieee.double.order x 0 = some o) : Ieee.double.order x 4787326403894837248 ≠ none := by
  obtain ⟨ms, mM, mp, me, -, -⟩ := most_val
  unfold Ieee.Format.order at h ⊢
  rw [read_zero] at h
  rw [me]
  cases hd : Ieee.double.read x with
  | nan s f => rw [hd] at h; cases h
  | infinity s => intro h; cases h
  | number s M p => intro h; cases h

theorem inB_false {x : Nat} (h : inB x = false) : ¬ (Ieee.double.order x 0 = some .gt ∨ Ieee.double.order x 0 = some .eq) ∨ (Ieee.double.order x 0 = some .gt ∨ Ieee.double.order x 0 = some .eq) ∧ Ieee.double.order x 4787326403894837248 = some .gt := by
  unfold inB at h
  by_cases h0 : Ieee.double.order x 0 = some .gt ∨ Ieee.double.order x 0 = some .eq
  · refine Or.inr ⟨h0, ?_⟩
    have nn : Ieee.double.order x 4787326403894837248 ≠ none := by
      rcases h0 with h0 | h0 <;> exact order_not_none h0
    cases ho : Ieee.double.order x 4787326403894837248 with
    | none => exact absurd ho nn
    | some o =>
      cases o
      · rw [ho] at h; rcases h0 with h0 | h0 <;> simp [h0] at h
      · rw [ho] at h; rcases h0 with h0 | h0 <;> simp [h0] at h
      · rfl
  · exact Or.inl h0

set_option maxHeartbeats 400000 in
theorem part_yes {x a : Nat} (w : World) (hx : IsPart x a) :
    Calls Try.prog 21 #[.float .f64 x] w fun e w' => e = .returned (.tuple #[.int .i64 a, .bool true]) ∧ w = w' := by
  have c1 := run_cut (cut_part hx)
  have e1 := eqB_part hx
  unfold eqB at e1
  obtain ⟨h0, h1⟩ := inB_true (inB_part hx)
  rw [← fmt64] at h0 h1 e1
  rcases h0 with h0 | h0 <;> rcases h1 with h1 | h1
  all_goals
    go_enter Try.func21, Try.ntmps21
    go_wp2
    go_ret2
    exact ⟨rfl, rfl⟩

set_option maxHeartbeats 400000 in
theorem part_no {x : Nat} (w : World) (h : ¬ ∃ a, IsPart x a) :
    Calls Try.prog 21 #[.float .f64 x] w fun e w' => ∃ m : Int, e = .returned (.tuple #[.int .i64 m, .bool false]) ∧ w = w' := by
  cases i1 : inB x with
  | false =>
    clear h
    rcases inB_false i1 with h0 | ⟨h0, h1⟩
    · rw [← fmt64] at h0
      have n1 : FloatKind.f64.format.order x 0 ≠ some .gt := fun h => h0 (Or.inl h)
      have n2 : FloatKind.f64.format.order x 0 ≠ some .eq := fun h => h0 (Or.inr h)
      clear h0
      go_enter Try.func21, Try.ntmps21
      go_wp2
      go_ret2
      exact ⟨_, rfl, rfl⟩
    · rw [← fmt64] at h0 h1
      rcases h0 with h0 | h0
      all_goals
        go_enter Try.func21, Try.ntmps21
        go_wp2
        go_ret2
        exact ⟨_, rfl, rfl⟩
  | true =>
    obtain ⟨m1, l1, k1, q1⟩ := cut_in i1
    have c1 := run_cut k1
    have e : eqB m1 x = false := by
      cases e1 : eqB m1 x
      · rfl
      · exact absurd ⟨m1, q1 e1⟩ h
    obtain ⟨h0, h1⟩ := inB_true i1
    clear h q1 k1 i1
    unfold eqB at e
    rw [← fmt64] at e h0 h1
    rcases h0 with h0 | h0 <;> rcases h1 with h1 | h1
    all_goals
      go_enter Try.func21, Try.ntmps21
      go_wp2
      go_ret2
      exact ⟨_, rfl, rfl⟩

set_option maxHeartbeats 400000 in
theorem rparts_yes {x y a b : Nat} (w : World) (hx : IsPart x a) (hy : IsPart y b) :
    Calls Try.prog 13 #[.complex .f64 x y] w fun e w' => e = .returned (.tuple #[.int .i64 a, .int .i64 b, .bool true]) ∧ w = w' := by
  go_enter Try.func13, Try.ntmps13
  go_wp2_with fail
  refine (part_yes _ hx).mono ?_
  rintro e w' ⟨rfl, rfl⟩
  go_wp2_with fail
  refine (part_yes _ hy).mono ?_
  rintro e w' ⟨rfl, rfl⟩
  go_wp2_with fail
  go_ret3
  exact ⟨rfl, rfl⟩

set_option maxHeartbeats 400000 in
theorem rparts_no {x y : Nat} (w : World) (h : ¬ IsToll x y) :
    Calls Try.prog 13 #[.complex .f64 x y] w fun e w' => e = .returned (.tuple #[.int .i64 0, .int .i64 0, .bool false]) ∧ w = w' := by
  by_cases hx : ∃ a, IsPart x a
  · by_cases hy : ∃ b, IsPart y b
    · obtain ⟨a, ha⟩ := hx
      obtain ⟨b, hb⟩ := hy
      exact absurd ⟨a, b, ha, hb⟩ h
    · obtain ⟨a, ha⟩ := hx
      clear h
      go_enter Try.func13, Try.ntmps13
      go_wp2_with fail
      refine (part_yes _ ha).mono ?_
      rintro e w' ⟨rfl, rfl⟩
      go_wp2_with fail
      refine (part_no _ hy).mono ?_
      rintro e w' ⟨m, rfl, rfl⟩
      go_wp2_with fail
      go_ret3
      exact ⟨rfl, rfl⟩
  · by_cases hy : ∃ b, IsPart y b
    · obtain ⟨b, hb⟩ := hy
      clear h
      go_enter Try.func13, Try.ntmps13
      go_wp2_with fail
      refine (part_no _ hx).mono ?_
      rintro e w' ⟨m, rfl, rfl⟩
      go_wp2_with fail
      refine (part_yes _ hb).mono ?_
      rintro e w' ⟨rfl, rfl⟩
      go_wp2_with fail
      go_ret3
      exact ⟨rfl, rfl⟩
    · clear h
      go_enter Try.func13, Try.ntmps13
      go_wp2_with fail
      refine (part_no _ hx).mono ?_
      rintro e w' ⟨m, rfl, rfl⟩
      go_wp2_with fail
      refine (part_no _ hy).mono ?_
      rintro e w' ⟨m', rfl, rfl⟩
      go_wp2_with fail
      go_ret3
      exact ⟨rfl, rfl⟩

end Go.Proofs.Ytpfjepmdnhmnaaa
