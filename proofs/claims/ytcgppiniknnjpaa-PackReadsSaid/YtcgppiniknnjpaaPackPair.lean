/- A cursor that keeps its contracts and the document's own one, side by side: whatever is asked of both, they answer alike. Each theorem names its own conditions. -/
import Derived.Test.YtcgppiniknnjpaaPackCur
namespace Go.Proofs.Ytcgppiniknnjpaa
open Go.RowKit
set_option linter.unusedVariables false
variable {PC : World → Nat → Nat → List UInt8 → Nat → Bool → Prop}

/-- Both stand alike. -/
structure Pair (PC : World → Nat → Nat → List UInt8 → Nat → Bool → Prop) (w : World) (B c d : Nat) (bv : Value) (l : List UInt8) (p q : Nat) (bad : Bool) : Prop where
  one : PC w B c l p bad
  two : RCur w d bv q bad
  row : Row1 w bv (l.map bval)
  same : bad = false → p = q
  le : q ≤ l.length
  sz : l.length ≤ 1099511627776
  far : B ≤ d
  ne : l ≠ [] → ∀ k, bv.ownBlock = some k → k < B ∧ k ≠ c

theorem Pair.cd (C : CurSaid PC) {w : World} {B c d : Nat} {bv : Value} {l : List UInt8} {p q : Nat} {bad : Bool} (h : Pair PC w B c d bv l p q bad) : c ≠ d := by
  have := (C.lt h.one).1
  have := h.far
  omega

theorem Pair.nd {w : World} {B c d : Nat} {bv : Value} {l : List UInt8} {p q : Nat} {bad : Bool} (h : Pair PC w B c d bv l p q bad) (h8 : p + 8 ≤ l.length) : bv.ownBlock ≠ some d := fun e => by
  have := h.ne (by intro e; subst e; simp at h8) d e
  have := h.far
  omega

theorem Row1.emptyAny {w w' : World} {v : Value} (h : Row1 w v []) : Row1 w' v [] := by
  obtain ⟨a, cap, e, h1, h2, h3, _⟩ := h
  exact ⟨a, cap, e, h1, h2, h3, fun h => absurd rfl h⟩

/-- The row that both read, where another block was written. -/
theorem Pair.rowGrown {w w' : World} {B c d : Nat} {bv : Value} {l : List UInt8} {row : Option Nat} (hrow : Row1 w bv (l.map bval)) (hne : l ≠ [] → ∀ k, bv.ownBlock = some k → k < B ∧ k ≠ c) (hg : w.grownBy w' row) (hr : ∀ k, row = some k → k = c ∨ B ≤ k) : Row1 w' bv (l.map bval) := by
  by_cases hl : l = []
  · subst hl
    exact Row1.emptyAny hrow
  · refine hrow.grown hg (fun k hk e => ?_)
    have := hne hl k e
    rcases hr k hk with h | h <;> omega

/-- The second, where the first has written. -/
theorem Pair.two_grown (C : CurSaid PC) {w w' : World} {B c d : Nat} {bv : Value} {l : List UInt8} {p q : Nat} {bad : Bool} (h : Pair PC w B c d bv l p q bad) (hg : w.grownBy w' (some c)) : RCur w' d bv q bad ∧ Row1 w' bv (l.map bval) :=
  ⟨h.two.grown hg (by simp; exact h.cd C), Pair.rowGrown (d := d) h.row h.ne hg (fun k hk => by cases hk; exact Or.inl rfl)⟩

/-- Both, where a row of another block was written, or nothing but draws were done. -/
theorem Pair.grown (C : CurSaid PC) {w w' : World} {B c d : Nat} {bv : Value} {l : List UInt8} {p q : Nat} {bad : Bool} {row : Option Nat} (h : Pair PC w B c d bv l p q bad) (hg : w.grownBy w' row) (hr : ∀ k, row = some k → B ≤ k ∧ k ≠ d) : Pair PC w' B c d bv l p q bad :=
  ⟨C.keep h.one (fun k hk => hg.block k (Nat.lt_of_lt_of_le hk (C.lt h.one).2) (fun e => by have := (hr k e.symm).1; omega)) hg.size,
    h.two.grown hg (fun e => (hr d e).2 rfl), Pair.rowGrown (d := d) h.row h.ne hg (fun k hk => Or.inr (hr k hk).1), h.same, h.le, h.sz, h.far, h.ne⟩

theorem Pair.drewN (C : CurSaid PC) {w : World} {B c d : Nat} {bv : Value} {l : List UInt8} {p q : Nat} {bad : Bool} (h : Pair PC w B c d bv l p q bad) (n : Nat) : Pair PC (w.drewN n) B c d bv l p q bad :=
  ⟨C.keep h.one (fun _ _ => rfl) (Nat.le_refl _), h.two, h.row, h.same, h.le, h.sz, h.far, h.ne⟩

/-- Both, asked one after the other. -/
theorem Pair.mk2 (C : CurSaid PC) {w w5 w6 : World} {B c d : Nat} {bv : Value} {l : List UInt8} {p q p' q' : Nat} {bad bad' : Bool} (h : Pair PC w B c d bv l p q bad) (h5 : PC w5 B c l p' bad') (hg5 : w.grownBy w5 (some c)) (h6 : RCur w6 d bv q' bad') (hg6 : w5.grownBy w6 (some d)) (hs : bad' = false → p' = q') (hl : q' ≤ l.length) : Pair PC w6 B c d bv l p' q' bad' :=
  ⟨C.keep h5 (fun k hk => hg6.block k (Nat.lt_of_lt_of_le hk (C.lt h5).2) (fun e => by cases e; have := h.far; omega)) hg6.size, h6,
    Pair.rowGrown (d := d) (h.two_grown C hg5).2 h.ne hg6 (fun k hk => by cases hk; exact Or.inr h.far), hs, hl, h.sz, h.far, h.ne⟩

/-- What both owe to one question: f of the one, g of the other. -/
def Asked (PC : World → Nat → Nat → List UInt8 → Nat → Bool → Prop) (w : World) (B c d : Nat) (bv : Value) (l : List UInt8) (f g : Nat) (more : Array Value) (l' : List UInt8) (q' : Nat) (bad' : Bool) : Prop :=
  (Calls Try.prog f (#[.pointer (some ⟨c, 0, none⟩)] ++ more) w fun e w' => ∃ v p', e = .returned v ∧ w'.ownsRow w.heap.size 5 1 v l'.length (l'.map bval) ∧ PC w' B c l p' bad' ∧ (bad' = false → p' = q') ∧ w.grownBy w' (some c)) ∧
  (∀ w5, w.grownBy w5 (some c) → Calls Try.prog g (#[.pointer (some ⟨d, 0, none⟩)] ++ more) w5 fun e w' => ∃ v, e = .returned v ∧ Row1 w' v (l'.map bval) ∧ RCur w' d bv q' bad' ∧ w5.grownBy w' (some d)) ∧
  q' ≤ l.length ∧ l'.length ≤ l.length

theorem asked_raw (C : CurSaid PC) {w : World} {B c d : Nat} {bv : Value} {l : List UInt8} {p q : Nat} {bad : Bool} (h : Pair PC w B c d bv l p q bad) (n : Int) :
    ∃ l' q' bad', Asked PC w B c d bv l 18 19 #[.int .i64 n] l' q' bad' := by
  obtain ⟨a, cap, rfl, m1, m2, _, _⟩ := id h.row
  rw [List.length_map] at m1
  by_cases hy : bad = false ∧ 0 ≤ n ∧ n ≤ (l.length : Int) - q
  · obtain ⟨rfl, h1, h2⟩ := hy
    have hpq := h.same rfl
    subst hpq
    have hle := h.le
    obtain ⟨m, rfl⟩ := Int.eq_ofNat_of_zero_le h1
    have hm : p + m ≤ l.length := by omega
    have hll : ((l.drop p).take m).length = m := by simp; omega
    refine ⟨(l.drop p).take m, p + m, false, ?_, fun w5 hg => ?_, hm, by omega⟩
    · rw [hll]
      refine (C.raw_yes w B c l p m h.one hm).mono ?_
      rintro e w' ⟨v, rfl, ho, hp, hg⟩
      exact ⟨v, _, rfl, ho, hp, fun _ => rfl, hg⟩
    · obtain ⟨h5, r5⟩ := h.two_grown C hg
      refine (rraw_yes d p m _ w5 h5 r5 hm h.sz).mono ?_
      rintro e w' ⟨v, rfl, ho, hr, hg⟩
      exact ⟨v, rfl, Row1.of_own ho, hr, hg⟩
  · have hno : bad = true ∨ n < 0 ∨ (l.length : Int) - q < n := by
      cases bad with
      | true => exact Or.inl rfl
      | false =>
        right
        by_cases h0 : n < 0
        · exact Or.inl h0
        · exact Or.inr (by
            have : ¬ (n ≤ (l.length : Int) - q) := fun h => hy ⟨rfl, by omega, h⟩
            omega)
    have hno1 : bad = true ∨ n < 0 ∨ (l.length : Int) - p < n := by
      cases bad with
      | true => exact Or.inl rfl
      | false => rw [h.same rfl]; exact hno
    have hle := h.le
    refine ⟨[], q, true, ?_, fun w5 hg => ?_, h.le, Nat.zero_le _⟩
    · refine (C.raw_no w B c l p bad n h.one hno1).mono ?_
      rintro e w' ⟨v, rfl, ho, hp, hg⟩
      exact ⟨v, _, rfl, ho, hp, (fun e => by cases e), hg⟩
    · obtain ⟨h5, r5⟩ := h.two_grown C hg
      rw [List.length_map] at h5 ⊢
      refine (rraw_no d q l.length cap a bad n w5 h5 m1 m2 hle hno).mono ?_
      rintro e w' ⟨rfl, hr, hg⟩
      exact ⟨_, rfl, Row1.nil _, hr, hg⟩

theorem asked_bytes (C : CurSaid PC) {w : World} {B c d : Nat} {bv : Value} {l : List UInt8} {p q : Nat} {bad : Bool} (h : Pair PC w B c d bv l p q bad) :
    ∃ l' q' bad', Asked PC w B c d bv l 16 17 #[] l' q' bad' := by
  obtain ⟨a, cap, rfl, m1, m2, _, _⟩ := id h.row
  rw [List.length_map] at m1
  have hle := h.le
  by_cases hno : bad = true ∨ l.length < q + 8
  · have hno1 : bad = true ∨ l.length < p + 8 := by
      cases bad with
      | true => exact Or.inl rfl
      | false => rw [h.same rfl]; exact hno
    refine ⟨[], q, true, ?_, fun w5 hg => ?_, h.le, Nat.zero_le _⟩
    · refine (C.bytes_no w B c l p bad h.one (hno1.elim Or.inl (fun h => Or.inr (Or.inl h)))).mono ?_
      rintro e w' ⟨v, p', rfl, ho, hp, hg⟩
      exact ⟨v, _, rfl, ho, hp, (fun e => by cases e), hg⟩
    · obtain ⟨h5, r5⟩ := h.two_grown C hg
      rw [List.length_map] at h5 ⊢
      refine (rcbytes_none d q l.length cap a bad w5 h5 m1 m2 hle (hno.elim Or.inl (fun h => Or.inr (by omega)))).mono ?_
      rintro e w' ⟨rfl, hr, hg⟩
      exact ⟨_, rfl, Row1.nil _, hr, hg⟩
  · have hb : bad = false := by cases bad with
      | true => exact absurd (Or.inl rfl) hno
      | false => rfl
    subst hb
    have hpq := h.same rfl
    subst hpq
    have h8 : p + 8 ≤ l.length := by
      have : ¬ l.length < p + 8 := fun h => hno (Or.inr h)
      omega
    by_cases hs : decI ((l.drop p).take 8) < 0 ∨ (l.length : Int) - (p + 8 : Nat) < decI ((l.drop p).take 8)
    · refine ⟨[], p + 8, true, ?_, fun w5 hg => ?_, h8, Nat.zero_le _⟩
      · refine (C.bytes_no w B c l p false h.one (Or.inr (Or.inr ⟨h8, hs⟩))).mono ?_
        rintro e w' ⟨v, p', rfl, ho, hp, hg⟩
        exact ⟨v, _, rfl, ho, hp, (fun e => by cases e), hg⟩
      · obtain ⟨h5, r5⟩ := h.two_grown C hg
        refine (rcbytes_short d p _ w5 h5 r5 h8 h.sz (h.nd h8) hs).mono ?_
        rintro e w' ⟨rfl, hr, hg⟩
        exact ⟨_, rfl, Row1.nil _, hr, hg⟩
    · obtain ⟨m, hm⟩ : ∃ m : Nat, decI ((l.drop p).take 8) = m := ⟨(decI ((l.drop p).take 8)).toNat, by omega⟩
      rw [hm] at hs
      have hm2 : p + 8 + m ≤ l.length := by omega
      have hll : ((l.drop (p + 8)).take m).length = m := by simp; omega
      refine ⟨(l.drop (p + 8)).take m, p + 8 + m, false, ?_, fun w5 hg => ?_, hm2, by omega⟩
      · rw [hll]
        refine (C.bytes_yes w B c l p m h.one hm2 hm).mono ?_
        rintro e w' ⟨v, rfl, ho, hp, hg⟩
        exact ⟨v, _, rfl, ho, hp, fun _ => rfl, hg⟩
      · obtain ⟨h5, r5⟩ := h.two_grown C hg
        refine (rcbytes_yes d p m _ w5 h5 r5 hm2 h.sz (h.nd h8) hm).mono ?_
        rintro e w' ⟨v, rfl, ho, hr, hg⟩
        exact ⟨v, rfl, Row1.of_own ho, hr, hg⟩

/-- The same of the question for a number. -/
theorem asked_int (C : CurSaid PC) {w : World} {B c d : Nat} {bv : Value} {l : List UInt8} {p q : Nat} {bad : Bool} (h : Pair PC w B c d bv l p q bad) :
    ∃ n p' q' bad', (Calls Try.prog 14 #[.pointer (some ⟨c, 0, none⟩)] w fun e w' => e = .returned (.int .i64 n) ∧ PC w' B c l p' bad' ∧ w.grownBy w' (some c)) ∧
      (∀ w5, w.grownBy w5 (some c) → Calls Try.prog 15 #[.pointer (some ⟨d, 0, none⟩)] w5 fun e w' => e = .returned (.int .i64 n) ∧ RCur w' d bv q' bad' ∧ w5.grownBy w' (some d)) ∧
      (bad' = false → p' = q') ∧ q' ≤ l.length := by
  obtain ⟨a, cap, rfl, m1, m2, _, _⟩ := id h.row
  rw [List.length_map] at m1
  have hle := h.le
  by_cases hno : bad = true ∨ l.length < q + 8
  · have hno1 : bad = true ∨ l.length < p + 8 := by
      cases bad with
      | true => exact Or.inl rfl
      | false => rw [h.same rfl]; exact hno
    refine ⟨0, p, q, true, C.int_no w B c l p bad h.one hno1, fun w5 hg => ?_, (fun e => by cases e), h.le⟩
    obtain ⟨h5, r5⟩ := h.two_grown C hg
    rw [List.length_map] at h5 ⊢
    exact rcint_no d q l.length cap a bad w5 h5 m1 m2 hle (hno.elim Or.inl (fun h => Or.inr (by omega)))
  · have hb : bad = false := by cases bad with
      | true => exact absurd (Or.inl rfl) hno
      | false => rfl
    subst hb
    have hpq := h.same rfl
    subst hpq
    have h8 : p + 8 ≤ l.length := by
      have : ¬ l.length < p + 8 := fun h => hno (Or.inr h)
      omega
    refine ⟨_, p + 8, p + 8, false, C.int_yes w B c l p h.one h8, fun w5 hg => ?_, fun _ => rfl, h8⟩
    obtain ⟨h5, r5⟩ := h.two_grown C hg
    exact rcint_yes d p _ w5 h5 r5 h8 h.sz (h.nd h8)

/-- What both tell of themselves, in whatever world that drew. -/
theorem told (C : CurSaid PC) {w : World} {B c d : Nat} {bv : Value} {l : List UInt8} {p q : Nat} {bad : Bool} (h : Pair PC w B c d bv l p q bad) :
    ∃ (lv : Int) (ev : Bool),
      (∀ n, Calls Try.prog 20 #[.pointer (some ⟨c, 0, none⟩)] (w.drewN n) fun e w' => e = .returned (.int .i64 lv) ∧ ∃ m, w' = (w.drewN n).drewN m) ∧
      (∀ n, Calls Try.prog 21 #[.pointer (some ⟨d, 0, none⟩)] (w.drewN n) fun e w' => e = .returned (.int .i64 lv) ∧ ∃ m, w' = (w.drewN n).drewN m) ∧
      (∀ n, Calls Try.prog 22 #[.pointer (some ⟨c, 0, none⟩)] (w.drewN n) fun e w' => e = .returned (.bool bad) ∧ ∃ m, w' = (w.drewN n).drewN m) ∧
      w.cell? ⟨d, 2, none⟩ = some (.bool bad) ∧
      (∀ n, Calls Try.prog 23 #[.pointer (some ⟨c, 0, none⟩)] (w.drewN n) fun e w' => e = .returned (.bool ev) ∧ ∃ m, w' = (w.drewN n).drewN m) ∧
      (∀ n, Calls Try.prog 24 #[.pointer (some ⟨d, 0, none⟩)] (w.drewN n) fun e w' => e = .returned (.bool ev) ∧ ∃ m, w' = (w.drewN n).drewN m) := by
  obtain ⟨a, cap, rfl, m1, m2, _, _⟩ := id h.row
  rw [List.length_map] at m1
  have hle := h.le
  have hP : ∀ n, PC (w.drewN n) B c l p bad := fun n => (h.drewN C n).one
  have hR : ∀ n, RCur (w.drewN n) d (.slice a l.length cap) q bad := fun n => by
    have := (h.drewN C n).two
    rw [List.length_map] at this
    exact this
  have e1 : (if bad then (0 : Int) else (l.length : Int) - p) = (if bad then 0 else (l.length : Int) - q) := by
    cases bad with
    | true => rfl
    | false => rw [h.same rfl]
  have e2 : (!bad && decide (p = l.length)) = (!bad && decide (q = l.length)) := by
    cases bad with
    | true => rfl
    | false => rw [h.same rfl]
  refine ⟨if bad then 0 else (l.length : Int) - q, !bad && decide (q = l.length), fun n => ?_, fun n => rleft_any d q l.length cap a bad _ (hR n) m1 m2 hle, fun n => C.bad_ _ B c l p bad (hP n), ?_, fun n => ?_, fun n => rend_any d q l.length cap a bad _ (hR n) m1 m2 hle⟩
  · rw [← e1]
    exact C.left _ B c l p bad (hP n)
  · have := h.two.cell 2
    simpa using this
  · rw [← e2]
    exact C.end_ _ B c l p bad (hP n)

end Go.Proofs.Ytcgppiniknnjpaa
