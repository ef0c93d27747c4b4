/- The document's own numbers: in, out; bytes that are 255. Each theorem names its own conditions. -/
import Derived.Test.YtdjdalaghfknoaaRefPow
namespace Go.Proofs.Ytdjdalaghfknoaa
open Go.RowKit
set_option linter.unusedVariables false
set_option linter.unusedSimpArgs false

/-- The bytes of a number from 0 to p - 1, and as a value. -/
def nb (x : Int) : List UInt8 := bytesN 32 (x % pP).toNat
theorem nb_length (x : Int) : (nb x).length = 32 := bytesN_length _ _
def numP (x : Int) : Value := .agg ((bytesN 32 (x % pP).toNat).map bval).toArray

theorem rin_el (l : List UInt8) (w : World) (hl : l.length = 32) :
    Calls Try.prog 26 #[.agg (l.map bval).toArray] w fun e w' => ∃ r, e = .returned r ∧ IsEl r (leN l) ∧ Below w.heap.size w w' := by
  refine (rin_any l w hl).mono ?_
  rintro e w' ⟨zs, rfl, h1, h2, h3, h4⟩
  exact ⟨_, rfl, ⟨zs, rfl, h1, fun z hz => by have := h2 z hz; omega, 0, by rw [h3]; omega⟩, h4⟩
theorem rout_el (v : Value) (x : Int) (w : World) (hv : IsEl v x) : Calls Try.prog 31 #[v] w fun e w' => e = .returned (numP x) ∧ Below w.heap.size w w' := rout_any v x w hv

/-- What holds of the bytes when k of them are 255. -/
structure FullB (bs : List Int) (k : Nat) : Prop where
  len : bs.length = 32
  low : ∀ j, j < k → bs.getD j 0 = 255
theorem FullB.step {bs : List Int} {k : Nat} (h : FullB bs k) (hk : k < 32) : FullB (bs.set k 255) (k + 1) := by
  obtain ⟨h1, h2⟩ := h
  refine ⟨by simp [h1], fun j hj => ?_⟩
  by_cases e : j = k
  · subst e
    rw [getD_set_same (by omega)]
  · rw [getD_set_far (by omega)]
    exact h2 j (by omega)
theorem FullB.done {bs : List Int} (h : FullB bs 32) : bs = List.replicate 32 255 := by
  apply List.ext_getElem?
  intro i
  by_cases hi : i < 32
  · have := h.low i hi
    have hl := h.len
    rw [List.getElem?_eq_getElem (by omega), List.getElem?_replicate, if_pos hi]
    simpa [List.getD, show i < bs.length from by omega] using this
  · rw [List.getElem?_eq_none (by have := h.len; omega), List.getElem?_eq_none (by simp; omega)]

end Go.Proofs.Ytdjdalaghfknoaa
