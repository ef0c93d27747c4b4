/- s[n:] of whatever reads as a list, whatever its address. Nothing here speaks of a program. Each theorem names its own conditions. -/
import Derived.Test.YtcadfccijeodbaaDoorRowMore
import Derived.Laws.Slices
namespace Go.Proofs.YtcadfccijeodbaaDoor
open Go.RowKit
set_option linter.unusedVariables false

section
variable {P : Program} {w : World}
theorem row_cut {t e : TypeId} (ht : P.underlying t = some (.slice e)) (hs : ∀ w, (sizeOf e).run P w = .ok 1 w) {v : Value} {vs : List Value} (h : Row1 w v vs) (n : Nat) (hn : n ≤ vs.length) :
    ∃ v', Row1 w v' (vs.drop n) ∧ ∀ w', (Instr.sliceAt t v (some (.int .i64 (n : Int))) none none).run P w' = .ok v' w' := by
  obtain ⟨a, cap, rfl, h1, h2, h3, h4⟩ := h
  have e2 : P.elem t = e := by unfold Program.elem; rw [ht]
  have ht2 : P.underlying t = some (.slice (P.elem t)) := by rw [e2]; exact ht
  have hr : ∀ w', (Instr.sliceAt t (.slice a vs.length cap) (some (.int .i64 (n : Int))) none none).run P w' = .ok (sliced a n vs.length cap 1) w' := fun w' => by
    rw [run_sliceAt_slice w' t _ _ _ _ ht2, run_slice_l (ht := ht2) (kl := .i64) (l := (n : Int)) (h0 := by omega) (h1 := by omega), e2, hs]
    simp
  refine ⟨_, ?_, hr⟩
  have hl : (vs.drop n).length = vs.length - n := by simp
  unfold sliced
  by_cases hc : cap = n
  · rw [if_pos hc]
    have hv : vs.drop n = [] := List.drop_eq_nil_of_le (by omega)
    rw [hv]
    refine ⟨a, cap - n, by rw [show vs.length - n = 0 from by omega]; rfl, Nat.zero_le _, by omega, fun e => by have := h3 e; omega, fun h => absurd rfl h⟩
  · rw [if_neg hc]
    refine ⟨a.map (·.add (n * 1)), cap - n, by rw [hl], by rw [hl]; omega, by omega, fun e => ?_, fun hne => ?_⟩
    · cases a with
      | none => have := h3 rfl; omega
      | some a => cases e
    · have hne2 : vs ≠ [] := by rintro rfl; simp at hne
      obtain ⟨b, off, rfl, g1, g2⟩ := h4 hne2
      refine ⟨b, off + n, by rw [Option.map_some, WideShapes.add_plain, Nat.mul_one], g1, fun i hi => ?_⟩
      rw [hl] at hi
      rw [Nat.add_assoc, g2 (n + i) (by omega), List.getElem?_drop]
/-- A part of what reads as a list, by the address that slicing makes of it. -/
theorem row_sliced {a : Option Addr} {cap : Nat} {vs : List Value} (h : Row1 w (.slice a vs.length cap) vs) (i k : Nat) (hik : i ≤ k) (hk : k ≤ vs.length) : Row1 w (sliced a i k cap 1) ((vs.drop i).take (k - i)) := by
  obtain ⟨a0, cap0, e0, h1, h2, h3, h4⟩ := h
  cases e0
  have hl : ((vs.drop i).take (k - i)).length = k - i := by simp; omega
  unfold sliced
  by_cases hc : cap = i
  · rw [if_pos hc]
    have hv : (vs.drop i).take (k - i) = [] := List.eq_nil_of_length_eq_zero (by omega)
    rw [hv]
    refine ⟨a, cap - i, by rw [show k - i = 0 from by omega]; rfl, Nat.zero_le _, by omega, fun e => by have := h3 e; omega, fun h => absurd rfl h⟩
  · rw [if_neg hc]
    refine ⟨a.map (·.add (i * 1)), cap - i, by rw [hl], by rw [hl]; omega, by omega, fun e => ?_, fun hne => ?_⟩
    · cases a with
      | none => have := h3 rfl; omega
      | some a => cases e
    · have hne2 : vs ≠ [] := by rintro rfl; simp at hne
      obtain ⟨b, off, rfl, g1, g2⟩ := h4 hne2
      refine ⟨b, off + i, by rw [Option.map_some, WideShapes.add_plain, Nat.mul_one], g1, fun j hj => ?_⟩
      rw [hl] at hj
      rw [Nat.add_assoc, g2 (i + j) (by omega), List.getElem?_take, if_pos hj, List.getElem?_drop]
/-- s[:k]. -/
theorem row_upto {t e : TypeId} (ht : P.underlying t = some (.slice e)) (hs : ∀ w, (sizeOf e).run P w = .ok 1 w) {v : Value} {vs : List Value} (h : Row1 w v vs) (k : Nat) (hk : k ≤ vs.length) :
    ∃ v', Row1 w v' (vs.take k) ∧ ∀ w', (Instr.sliceAt t v none (some (.int .i64 (k : Int))) none).run P w' = .ok v' w' := by
  obtain ⟨a, cap, rfl, h1, _⟩ := id h
  have e2 : P.elem t = e := by unfold Program.elem; rw [ht]
  have ht2 : P.underlying t = some (.slice (P.elem t)) := by rw [e2]; exact ht
  refine ⟨sliced a 0 k cap 1, by simpa using row_sliced h 0 k (Nat.zero_le _) hk, fun w' => ?_⟩
  rw [run_sliceAt_slice w' t _ _ _ _ ht2, run_slice_h (ht := ht2) (kh := .i64) (h := (k : Int)) (h0 := by omega) (h2 := by omega), e2, hs]
  simp
/-- s[i:k]. -/
theorem row_mid {t e : TypeId} (ht : P.underlying t = some (.slice e)) (hs : ∀ w, (sizeOf e).run P w = .ok 1 w) {v : Value} {vs : List Value} (h : Row1 w v vs) (i k : Nat) (hik : i ≤ k) (hk : k ≤ vs.length) :
    ∃ v', Row1 w v' ((vs.drop i).take (k - i)) ∧ ∀ w', (Instr.sliceAt t v (some (.int .i64 (i : Int))) (some (.int .i64 (k : Int))) none).run P w' = .ok v' w' := by
  obtain ⟨a, cap, rfl, h1, _⟩ := id h
  have e2 : P.elem t = e := by unfold Program.elem; rw [ht]
  have ht2 : P.underlying t = some (.slice (P.elem t)) := by rw [e2]; exact ht
  refine ⟨sliced a i k cap 1, row_sliced h i k hik hk, fun w' => ?_⟩
  rw [run_sliceAt_slice w' t _ _ _ _ ht2, run_slice_lh (ht := ht2) (kl := .i64) (kh := .i64) (l := (i : Int)) (h := (k : Int)) (h0 := by omega) (h1 := by omega) (h2 := by omega), e2, hs]
  simp
/-- Rows of rows. -/
theorem rowB1 {v x : Value} {l : List UInt8} (h : Row1 w v [x]) (hx : Row1 w x (l.map bval)) : RowB w v [l] :=
  ⟨_, h, rfl, fun i y k hy hk => by
    match i with
    | 0 => simp at hy hk; subst hy; subst hk; exact hx
    | i + 1 => simp at hy⟩
theorem rowB2 {v x y : Value} {l m : List UInt8} (h : Row1 w v [x, y]) (hx : Row1 w x (l.map bval)) (hy : Row1 w y (m.map bval)) : RowB w v [l, m] :=
  ⟨_, h, rfl, fun i u k hu hk => by
    match i with
    | 0 => simp at hu hk; subst hu; subst hk; exact hx
    | 1 => simp at hu hk; subst hu; subst hk; exact hy
    | i + 2 => simp at hu⟩
theorem rowB3 {v x y z : Value} {l m n : List UInt8} (h : Row1 w v [x, y, z]) (hx : Row1 w x (l.map bval)) (hy : Row1 w y (m.map bval)) (hz : Row1 w z (n.map bval)) : RowB w v [l, m, n] :=
  ⟨_, h, rfl, fun i u k hu hk => by
    match i with
    | 0 => simp at hu hk; subst hu; subst hk; exact hx
    | 1 => simp at hu hk; subst hu; subst hk; exact hy
    | 2 => simp at hu hk; subst hu; subst hk; exact hz
    | i + 3 => simp at hu⟩
theorem rowB4 {v x y z u : Value} {l m n o : List UInt8} (h : Row1 w v [x, y, z, u]) (hx : Row1 w x (l.map bval)) (hy : Row1 w y (m.map bval)) (hz : Row1 w z (n.map bval)) (hu : Row1 w u (o.map bval)) : RowB w v [l, m, n, o] :=
  ⟨_, h, rfl, fun i q k hq hk => by
    match i with
    | 0 => simp at hq hk; subst hq; subst hk; exact hx
    | 1 => simp at hq hk; subst hq; subst hk; exact hy
    | 2 => simp at hq hk; subst hq; subst hk; exact hz
    | 3 => simp at hq hk; subst hq; subst hk; exact hu
    | i + 4 => simp at hq⟩
/-- A new block of cells that bears a mark, as a row. -/
theorem Row1.made_mark (w : World) (c : Array Value) (e : TypeId) (fr : Nat × Nat) (n m : Nat) (l : List Value) (hn : w.heap.size = n) (hc : c.toList = l) (hl : l.length = m) (hm : m ≤ maxLen) : Row1 (w.alloc (.cells c e fr)) (.slice (some ⟨n, 0, none⟩) m m) l := by
  subst hn; subst hl; subst hc
  refine ⟨_, _, rfl, Nat.le_refl _, hm, (fun e => by cases e), fun _ => ⟨w.heap.size, 0, rfl, by simp, fun i hi => ?_⟩⟩
  rw [Nat.zero_add, World.cell?_alloc_mark]
  simp
/-- A whole array, as a row. -/
theorem blk_row {c n : Nat} {cs : List Value} {t : TypeId} (h : Blk w c cs t) (hn : cs.length = n) (hm : n ≤ maxLen) : Row1 w (.slice (some ⟨c, 0, none⟩) n n) cs := by
  subst hn
  exact ⟨_, _, rfl, Nat.le_refl _, hm, (fun e => by cases e), fun _ => ⟨c, 0, rfl, h.lt, fun i _ => by rw [Nat.zero_add, h.cell]⟩⟩
/-- a[:] of an array that is a variable. -/
theorem cut_whole {t : TypeId} {n : Nat} {e : TypeId} (ht : P.underlying t = some (.array n e)) (h : ∀ w, (sizeOf e).run P w = .ok 1 w) (hn : 0 < n) (A : Nat) (w : World) :
    (Instr.sliceAt t (.pointer (some ⟨A, 0, none⟩)) none none none).run P w = .ok (.slice (some ⟨A, 0, none⟩) n n) w := by
  have e1 : P.arrayLen t = n := by unfold Program.arrayLen; rw [ht]
  have e2 : P.elem t = e := by unfold Program.elem; rw [ht]
  rw [run_sliceAt_array_all w t ⟨A, 0, none⟩ (by rw [e1, e2]; exact ht), e2, h, e1]
  simp [slicedAt, Addr.add, show ¬ n = 0 by omega]
end

end Go.Proofs.YtcadfccijeodbaaDoor
