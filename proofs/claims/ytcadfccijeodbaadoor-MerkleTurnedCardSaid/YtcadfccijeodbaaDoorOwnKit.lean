/- A row of the call's own: its length, its form. Nothing here speaks of a program. Each theorem names its own conditions. -/
import Derived.Test.YtcadfccijeodbaaDoorRowMore
namespace Go.Proofs.YtcadfccijeodbaaDoor
open Go.RowKit
set_option linter.unusedVariables false
set_option linter.unusedSimpArgs false

/-- A slice's length. -/
def lenOf : Value → Nat
  | .slice _ n _ => n
  | _ => 0

theorem ownRow_len {w : World} {base : Nat} {e : TypeId} {n : Nat} {x : Value} {xs : List Value} (h : w.ownsRow base e 1 x n xs) : lenOf x = n := by
  obtain ⟨_, ⟨rfl, rfl⟩ | ⟨g, cap, cur, rfl, _⟩⟩ := h
  · rfl
  · rfl
theorem own_eq {w : World} {base : Nat} {e : TypeId} {n m : Nat} {x : Value} {xs ys : List Value} (h : w.ownsRow base e 1 x n xs) (hn : n = m) (hx : xs = ys) : w.ownsRow base e 1 x m ys := by
  subst hn; subst hx
  exact h

/-- A row of the call's own was appended to: what lies below its base stands. -/
theorem below_own {a b d : World} {base : Nat} {e : TypeId} {n : Nat} {x : Value} {xs : List Value} (h : Below base a b) (ho : b.ownsRow base e 1 x n xs) (hg : b.grownBy d x.ownBlock) (hb : base ≤ b.heap.size) : Below base a d :=
  Below.grown h hg hb (fun r hr => by
    obtain ⟨_, h1 | ⟨g, cap, cur, rfl, h2, _⟩⟩ := ho
    · obtain ⟨rfl, _⟩ := h1
      cases hr
    · cases hr
      exact h2)

/-- One cell of a row of the call's own is read, and written. -/
theorem own_put {w : World} {base : Nat} {e : TypeId} {n : Nat} {x : Value} {xs : List Value} (h : w.ownsRow base e 1 x n xs) (k : Nat) (hk : k < n) :
    ∃ g cap, x = .slice (some ⟨g, 0, none⟩) n cap ∧ base ≤ g ∧ g < w.heap.size ∧ w.cell? ⟨g, k, none⟩ = xs[k]? ∧ w.frozen? ⟨g, k, none⟩ = false ∧ ∀ u, (w.setCell ⟨g, k, none⟩ u).ownsRow base e 1 x n (xs.set k u) := by
  obtain ⟨hl, h1 | ⟨g, cap, cur, rfl, h2, h3, h4, h5, h6, h7⟩⟩ := h
  · omega
  · rw [Nat.mul_one] at hl h6 h7
    have hB : Blk w g cur.toList e := by
      show w.heap[g]? = some (.cells cur.toList.toArray e (0, 0))
      rw [Array.toArray_toList]
      exact h3
    refine ⟨g, cap, rfl, h2, hB.lt, ?_, hB.free k, fun u => ⟨by rw [List.length_set, Nat.mul_one]; exact hl, Or.inr ⟨g, cap, cur.setIfInBounds k u, rfl, h2, heap_setCell_same w g k cur e u h3, h4, h5, by simp; omega, ?_⟩⟩⟩
    · rw [hB.cell, ← h7, List.getElem?_take, if_pos hk]
    · rw [Nat.mul_one, Array.toList_setIfInBounds, List.take_set, h7]

end Go.Proofs.YtcadfccijeodbaaDoor
