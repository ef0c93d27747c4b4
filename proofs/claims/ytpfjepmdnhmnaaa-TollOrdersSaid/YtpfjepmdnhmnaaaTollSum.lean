/- The walks of toll.Sum and of the document's own Sum over a row of complex numbers in memory: both answer the bounded sums of the parts; each theorem names its own conditions. -/
import Derived.Test.YtpfjepmdnhmnaaaTollTimes
namespace Go.Proofs.Ytpfjepmdnhmnaaa
open Go.RowKit

open Classical in
/-- The erases of a complex number that is a toll; else nought. -/
noncomputable def tA (c : Nat × Nat) : Nat := if h : IsToll c.1 c.2 then h.choose else 0
open Classical in
/-- The programs of a complex number that is a toll; else nought. -/
noncomputable def tB (c : Nat × Nat) : Nat := if h : IsToll c.1 c.2 then h.choose_spec.choose else 0

theorem tA_eq {x y a b : Nat} (hx : IsPart x a) (hy : IsPart y b) : tA (x, y) = a := by
  have h : IsToll x y := ⟨a, b, hx, hy⟩
  unfold tA
  rw [dif_pos h]
  exact h.choose_spec.choose_spec.1.unique hx
theorem tB_eq {x y a b : Nat} (hx : IsPart x a) (hy : IsPart y b) : tB (x, y) = b := by
  have h : IsToll x y := ⟨a, b, hx, hy⟩
  unfold tB
  rw [dif_pos h]
  exact h.choose_spec.choose_spec.2.unique hy
theorem tA_no {x y : Nat} (h : ¬ IsToll x y) : tA (x, y) = 0 := by
  unfold tA
  rw [dif_neg h]
theorem tB_no {x y : Nat} (h : ¬ IsToll x y) : tB (x, y) = 0 := by
  unfold tB
  rw [dif_neg h]

/-- The bounded sum. -/
noncomputable def sA (l : List (Nat × Nat)) : Nat := min (l.map tA).sum 1099511627776
noncomputable def sB (l : List (Nat × Nat)) : Nat := min (l.map tB).sum 1099511627776

theorem sA_le (l : List (Nat × Nat)) : sA l ≤ 1099511627776 := Nat.min_le_right _ _
theorem sB_le (l : List (Nat × Nat)) : sB l ≤ 1099511627776 := Nat.min_le_right _ _
theorem sA_snoc (l : List (Nat × Nat)) (c : Nat × Nat) : sA (l ++ [c]) = min (sA l + tA c) 1099511627776 := by
  unfold sA
  simp
  omega
theorem sB_snoc (l : List (Nat × Nat)) (c : Nat × Nat) : sB (l ++ [c]) = min (sB l + tB c) 1099511627776 := by
  unfold sB
  simp
  omega

/-- A slice of complex numbers that reads as the list. -/
def CRow (w : World) (v : Value) (cs : List (Nat × Nat)) : Prop :=
  (v = .slice none 0 0 ∧ cs = []) ∨ ∃ b off cap, v = .slice (some ⟨b, off, none⟩) cs.length cap ∧ cs.length ≤ cap ∧ cap ≤ maxLen ∧
    ∀ i, i < cs.length → w.cell? ⟨b, off + i, none⟩ = some (.complex .f64 (cs.getD i (0, 0)).1 (cs.getD i (0, 0)).2)

/-- The lesser of a whole number and 2^40. -/
theorem run_min_most {r n : Nat} (h : Nv r n) (w : World) (t : Array TypeId) (u : TypeId) :
    ∃ r', (Builtin.min_ t u #[.float .f64 r, .float .f64 4787326403894837248]).run Try.prog w = .ok (.float .f64 r') w ∧ IsPart r' (min n 1099511627776) := by
  have o := order_val h most_val
  rw [cmp_nat] at o
  rcases Nat.lt_trichotomy n 1099511627776 with g | g | g
  · rw [if_pos g] at o
    refine ⟨r, ?_, ?_⟩
    · simp [Builtin.min_, Builtin.min2, fmt64, o]
    · rw [Nat.min_eq_left (by omega)]
      exact ⟨h, by omega⟩
  · rw [if_neg (by omega), if_pos g] at o
    subst g
    refine ⟨if (FloatKind.f64.decode r).neg then r else 4787326403894837248, ?_, ?_⟩
    · simp [Builtin.min_, Builtin.min2, fmt64, o]
    · split
      · exact ⟨h, by omega⟩
      · exact ⟨most_val, by omega⟩
  · rw [if_neg (by omega), if_neg (by omega)] at o
    refine ⟨4787326403894837248, ?_, ?_⟩
    · simp [Builtin.min_, Builtin.min2, fmt64, o]
    · rw [Nat.min_eq_right (by omega)]
      exact ⟨most_val, by omega⟩

set_option maxHeartbeats 400000 in
theorem capped_any {x y m n : Nat} (w : World) (hx : Nv x m) (hy : Nv y n) :
    Calls Try.prog 23 #[.complex .f64 x y] w fun e w' => ∃ u v, e = .returned (.complex .f64 u v) ∧ IsPart u (min m 1099511627776) ∧ IsPart v (min n 1099511627776) ∧ w = w' := by
  obtain ⟨u, e1, p1⟩ := run_min_most hx w #[22, 22] 22
  obtain ⟨v, e2, p2⟩ := run_min_most hy w #[22, 22] 22
  go_enter Try.func23, Try.ntmps23
  go_wp2_with fail
  go_ret
  exact ⟨u, v, rfl, p1, p2, rfl⟩

theorem run_csum {x y u v a b c d : Nat} (hx : IsPart x a) (hy : IsPart y b) (hu : IsPart u c) (hv : IsPart v d) (w : World) (t : TypeId) :
    ∃ re im, (binOp .add t (.complex .f64 x y) (.complex .f64 u v)).run Try.prog w = .ok (.complex .f64 re im) w ∧ Nv re (a + c) ∧ Nv im (b + d) := by
  have g : (2199023255552 : Nat) < 2 ^ 53 := by decide
  have g2 : (2199023255552 : Nat) < 2 ^ 200 := by decide
  have h1 := hx.2
  have h2 := hy.2
  have h3 := hu.2
  have h4 := hv.2
  obtain ⟨r1, c1, e1, v1, s1, -⟩ := add_val hx.1 hu.1 (Nat.lt_of_le_of_lt (by omega) g2)
  obtain ⟨r2, c2, e2, v2, s2, -⟩ := add_val hy.1 hv.1 (Nat.lt_of_le_of_lt (by omega) g2)
  rw [s1 (Nat.lt_of_le_of_lt (by omega) g)] at v1
  rw [s2 (Nat.lt_of_le_of_lt (by omega) g)] at v2
  refine ⟨r1, r2, run_complex_sum w .add (Or.inl rfl) t .f64 x y u v r1 r2 ?_, v1, v2⟩
  unfold cSumBits floatBits
  rw [fmt64]
  simp only [e1, e2, Option.bind_some]

/-- What the loop holds. -/
def SumAt (cs : List (Nat × Nat)) (k : Nat) (s : Value) : Prop := ∃ u v, s = .complex .f64 u v ∧ IsPart u (sA (cs.take k)) ∧ IsPart v (sB (cs.take k))

theorem SumAt.nought (cs : List (Nat × Nat)) : SumAt cs 0 (.complex .f64 0 0) := by
  refine ⟨0, 0, rfl, ?_, ?_⟩
  · simp [sA]; exact ⟨Nv.nought, by omega⟩
  · simp [sB]; exact ⟨Nv.nought, by omega⟩

theorem take_snoc' {cs : List (Nat × Nat)} {k : Nat} (h : k < cs.length) : cs.take (k + 1) = cs.take k ++ [cs.getD k (0, 0)] := by
  rw [List.take_succ_eq_append_getElem h]
  simp [List.getD, h]

theorem SumAt.keep {cs : List (Nat × Nat)} {k x y u v : Nat} (h : k < cs.length) (he : cs.getD k (0, 0) = (x, y)) (hn : ¬ IsToll x y) (hu : IsPart u (sA (cs.take k))) (hv : IsPart v (sB (cs.take k))) : SumAt cs (k + 1) (.complex .f64 u v) := by
  refine ⟨u, v, rfl, ?_, ?_⟩
  · rw [take_snoc' h, sA_snoc, he, tA_no hn, Nat.add_zero, Nat.min_eq_left (sA_le _)]; exact hu
  · rw [take_snoc' h, sB_snoc, he, tB_no hn, Nat.add_zero, Nat.min_eq_left (sB_le _)]; exact hv

theorem SumAt.step {cs : List (Nat × Nat)} {k x y a b u v : Nat} (h : k < cs.length) (he : cs.getD k (0, 0) = (x, y)) (hx : IsPart x a) (hy : IsPart y b)
    (hu : IsPart u (min (sA (cs.take k) + a) 1099511627776)) (hv : IsPart v (min (sB (cs.take k) + b) 1099511627776)) : SumAt cs (k + 1) (.complex .f64 u v) := by
  refine ⟨u, v, rfl, ?_, ?_⟩
  · rw [take_snoc' h, sA_snoc, he, tA_eq hx hy]; exact hu
  · rw [take_snoc' h, sB_snoc, he, tB_eq hx hy]; exact hv

set_option maxHeartbeats 400000 in
theorem sum_row (b off cap : Nat) (cs : List (Nat × Nat)) (w : World) (hcap : cs.length ≤ cap) (hmax : cap ≤ maxLen)
    (hc : ∀ i, i < cs.length → w.cell? ⟨b, off + i, none⟩ = some (.complex .f64 (cs.getD i (0, 0)).1 (cs.getD i (0, 0)).2)) :
    Calls Try.prog 14 #[.slice (some ⟨b, off, none⟩) cs.length cap] w fun e w' => ∃ s, e = .returned s ∧ SumAt cs cs.length s ∧ w = w' := by
  unfold maxLen at hmax
  go_enter Try.func14, Try.ntmps14
  go_wp2
  go_loop [3, 8] (fun s i => ∃ k : Nat, k ≤ cs.length ∧ i = .int .i64 k ∧ SumAt cs k s) (fun _ i => cs.length - (intOf i).toNat)
  case atStart => exact ⟨0, Nat.zero_le _, rfl, SumAt.nought cs⟩
  case round =>
    obtain ⟨k, hk, rfl, u, v, rfl, hu, hv⟩ := hrel
    by_cases hlt : k < cs.length
    · have hcell := hc k hlt
      clear hc
      cases he : cs.getD k (0, 0) with
      | mk x y =>
      rw [he] at hcell
      have HE := Lib.hid he
      clear he
      by_cases ht : IsToll x y
      · obtain ⟨a, c, ha, hb⟩ := ht
        obtain ⟨re, im, e1, n1, n2⟩ := run_csum hu hv ha hb w 24
        go_wp2_with fail
        refine (valid_yes _ ha hb).mono ?_
        rintro e w' ⟨rfl, rfl⟩
        go_wp2_with fail
        refine (capped_any _ n1 n2).mono ?_
        rintro e w' ⟨u', v', rfl, p1, p2, rfl⟩
        have fin := SumAt.step hlt HE.out ha hb p1 p2
        go_wp2_with fail
        go_round
        case rel => exact ⟨k + 1, by omega, by go_num, fin⟩
        case measure => simp [intOf]; omega
      · have fin := SumAt.keep hlt HE.out ht hu hv
        go_wp2_with fail
        refine (valid_no _ ht).mono ?_
        rintro e w' ⟨rfl, rfl⟩
        go_wp2_with fail
        go_round
        case rel => exact ⟨k + 1, by omega, by go_num, fin⟩
        case measure => simp [intOf]; omega
    · have hk' : k = cs.length := by omega
      subst hk'
      go_wp2_with fail
      go_ret
      exact ⟨_, rfl, ⟨u, v, rfl, hu, hv⟩, rfl⟩

theorem rcapped_any (n : Nat) (w : World) (h : n ≤ 2199023255552) :
    Calls Try.prog 24 #[.int .i64 n] w fun e w' => e = .returned (.int .i64 (min n 1099511627776 : Nat)) ∧ w = w' := by
  by_cases h1 : n ≤ 1099511627776
  · rw [Nat.min_eq_left h1]
    go_enter Try.func24, Try.ntmps24
    go_wp2
    go_ret
    exact ⟨rfl, rfl⟩
  · rw [Nat.min_eq_right (by omega)]
    go_enter Try.func24, Try.ntmps24
    go_wp2
    go_ret
    exact ⟨rfl, rfl⟩

/-- The parts of a complex number, as the document's own Parts has them: noughts where it is no toll. -/
theorem rparts_any (x y : Nat) (w : World) :
    Calls Try.prog 13 #[.complex .f64 x y] w fun e w' => ∃ r, e = .returned (.tuple #[.int .i64 (tA (x, y)), .int .i64 (tB (x, y)), .bool r]) ∧ w = w' := by
  by_cases h : IsToll x y
  · obtain ⟨a, b, ha, hb⟩ := h
    rw [tA_eq ha hb, tB_eq ha hb]
    exact (rparts_yes w ha hb).mono fun _ _ ⟨h1, h2⟩ => ⟨_, h1, h2⟩
  · rw [tA_no h, tB_no h]
    exact (rparts_no w h).mono fun _ _ ⟨h1, h2⟩ => ⟨_, h1, h2⟩

theorem tA_le (c : Nat × Nat) : tA c ≤ 1099511627776 := by
  obtain ⟨x, y⟩ := c
  by_cases h : IsToll x y
  · obtain ⟨a, b, ha, hb⟩ := h
    rw [tA_eq ha hb]; exact ha.2
  · rw [tA_no h]; omega
theorem tB_le (c : Nat × Nat) : tB c ≤ 1099511627776 := by
  obtain ⟨x, y⟩ := c
  by_cases h : IsToll x y
  · obtain ⟨a, b, ha, hb⟩ := h
    rw [tB_eq ha hb]; exact hb.2
  · rw [tB_no h]; omega

/-- What the document's own loop holds. -/
def RSumAt (cs : List (Nat × Nat)) (k : Nat) (x y : Value) : Prop := x = .int .i64 (sA (cs.take k)) ∧ y = .int .i64 (sB (cs.take k))

set_option maxHeartbeats 400000 in
theorem rsum_row (b off cap : Nat) (cs : List (Nat × Nat)) (w : World) (hcap : cs.length ≤ cap) (hmax : cap ≤ maxLen)
    (hc : ∀ i, i < cs.length → w.cell? ⟨b, off + i, none⟩ = some (.complex .f64 (cs.getD i (0, 0)).1 (cs.getD i (0, 0)).2)) :
    Calls Try.prog 15 #[.slice (some ⟨b, off, none⟩) cs.length cap] w fun e w' => ∃ s, e = .returned s ∧ SumAt cs cs.length s ∧ w = w' := by
  unfold maxLen at hmax
  go_enter Try.func15, Try.ntmps15
  go_wp2
  go_loop [3, 4, 5] (fun x y i => ∃ k : Nat, k ≤ cs.length ∧ i = .int .i64 k ∧ RSumAt cs k x y) (fun _ _ i => cs.length - (intOf i).toNat)
  case atStart => exact ⟨0, Nat.zero_le _, rfl, by simp [RSumAt, sA, sB]⟩
  case round =>
    obtain ⟨k, hk, rfl, rfl, rfl⟩ := hrel
    by_cases hlt : k < cs.length
    · have hcell := hc k hlt
      clear hc
      cases he : cs.getD k (0, 0) with
      | mk x y =>
      rw [he] at hcell
      have la := sA_le (cs.take k)
      have lb := sB_le (cs.take k)
      have l1 := tA_le (x, y)
      have l2 := tB_le (x, y)
      have f1 : sA (cs.take (k + 1)) = min (sA (cs.take k) + tA (x, y)) 1099511627776 := by rw [take_snoc' hlt, sA_snoc, he]
      have f2 : sB (cs.take (k + 1)) = min (sB (cs.take k) + tB (x, y)) 1099511627776 := by rw [take_snoc' hlt, sB_snoc, he]
      have F1 := Lib.hid f1
      have F2 := Lib.hid f2
      clear he f1 f2
      go_wp2_with fail
      refine (rparts_any _ _ _).mono ?_
      rintro e w' ⟨r, rfl, rfl⟩
      go_wp2_with fail
      refine (rcapped_any _ _ (by omega)).mono ?_
      rintro e w' ⟨rfl, rfl⟩
      go_wp2_with fail
      refine (rcapped_any _ _ (by omega)).mono ?_
      rintro e w' ⟨rfl, rfl⟩
      go_wp2_with fail
      go_round
      case rel => exact ⟨k + 1, by omega, by go_num, by unfold RSumAt; rw [F1.out, F2.out]; exact ⟨rfl, rfl⟩⟩
      case measure => simp [intOf]; omega
    · have hk' : k = cs.length := by omega
      subst hk'
      have la := sA_le cs
      have lb := sB_le cs
      clear hc
      go_wp2_with fail
      refine (rof_yes _ _ _ (by omega) (by omega) (by omega) (by omega)).mono ?_
      rintro e w' ⟨rfl, rfl⟩
      go_wp2_with fail
      go_ret
      have g : (1099511627776 : Nat) < 2 ^ 53 := by decide
      have w1 : Nv (floatOfInt .f64 (sA cs : Int)) (sA cs) := ofInt_val (Nat.lt_of_le_of_lt la g)
      have w2 : Nv (floatOfInt .f64 (sB cs : Int)) (sB cs) := ofInt_val (Nat.lt_of_le_of_lt lb g)
      refine ⟨_, rfl, ⟨_, _, rfl, ?_, ?_⟩, rfl⟩
      · rw [List.take_length]; exact ⟨w1, la⟩
      · rw [List.take_length]; exact ⟨w2, lb⟩

/-- What both Sums hand back of a row. -/
def SumOf (cs : List (Nat × Nat)) (s : Value) : Prop := ∃ u v, s = .complex .f64 u v ∧ IsPart u (sA cs) ∧ IsPart v (sB cs)

theorem SumAt.whole {cs : List (Nat × Nat)} {s : Value} (h : SumAt cs cs.length s) : SumOf cs s := by
  unfold SumAt at h
  rw [List.take_length] at h
  exact h

theorem sumOf_nil : SumOf [] (.complex .f64 0 0) := ⟨0, 0, rfl, ⟨Nv.nought, sA_le _⟩, ⟨Nv.nought, sB_le _⟩⟩

set_option maxHeartbeats 400000 in
theorem sum_nil (w : World) : Calls Try.prog 14 #[.slice none 0 0] w fun e w' => ∃ s, e = .returned s ∧ SumOf [] s ∧ w = w' := by
  go_enter Try.func14, Try.ntmps14
  go_wp2
  refine wp_loop_rounds 1 ?_
  rw [rounds_succ]
  go_wp2
  go_ret
  exact ⟨_, rfl, sumOf_nil, rfl⟩

set_option maxHeartbeats 400000 in
theorem rsum_nil (w : World) : Calls Try.prog 15 #[.slice none 0 0] w fun e w' => ∃ s, e = .returned s ∧ SumOf [] s ∧ w = w' := by
  have p := part_of (a := 0) (by omega) (by omega)
  go_enter Try.func15, Try.ntmps15
  go_wp2
  refine wp_loop_rounds 1 ?_
  rw [rounds_succ]
  go_wp2_with fail
  refine (rof_yes _ _ _ (by omega) (by omega) (by omega) (by omega)).mono ?_
  rintro e w' ⟨rfl, rfl⟩
  go_wp2_with fail
  go_ret
  exact ⟨_, rfl, ⟨_, _, rfl, p, p⟩, rfl⟩

/-- toll.Sum, of a slice that reads as the list. -/
theorem sum_any {v : Value} {cs : List (Nat × Nat)} (w : World) (h : CRow w v cs) : Calls Try.prog 14 #[v] w fun e w' => ∃ s, e = .returned s ∧ SumOf cs s ∧ w = w' := by
  rcases h with ⟨rfl, rfl⟩ | ⟨b, off, cap, rfl, h1, h2, h3⟩
  · exact sum_nil w
  · exact (sum_row b off cap cs w h1 h2 h3).mono fun _ _ ⟨s, a, b, c⟩ => ⟨s, a, b.whole, c⟩

/-- The document's own Sum, of a slice that reads as the list. -/
theorem rsum_any {v : Value} {cs : List (Nat × Nat)} (w : World) (h : CRow w v cs) : Calls Try.prog 15 #[v] w fun e w' => ∃ s, e = .returned s ∧ SumOf cs s ∧ w = w' := by
  rcases h with ⟨rfl, rfl⟩ | ⟨b, off, cap, rfl, h1, h2, h3⟩
  · exact rsum_nil w
  · exact (rsum_row b off cap cs w h1 h2 h3).mono fun _ _ ⟨s, a, b, c⟩ => ⟨s, a, b.whole, c⟩

end Go.Proofs.Ytpfjepmdnhmnaaa
