/- Worlds in which nothing of before has changed but, it may be, one block. Nothing here speaks of a program. Each theorem names its own conditions. -/
import Derived.Test.YtcadfccijeodbaaDoorDetSteps
import Derived.Test.YtcadfccijeodbaaDoorByteKit
namespace Go.Proofs.YtcadfccijeodbaaDoor
open Go.RowKit

def Far (c : Nat) (w w' : World) : Prop := ∃ wx, Ext w wx ∧ (w' = wx ∨ wx.grownBy w' (some c))
theorem fars_ext {c : Nat} {w w' : World} (h : Ext w w') : Far c w w' := ⟨w', h, Or.inl rfl⟩
theorem fars_put {c : Nat} {w wx w' : World} (h : Ext w wx) (g : wx.grownBy w' (some c)) : Far c w w' := ⟨wx, h, Or.inr g⟩
theorem fars_range {c a : Nat} {w w' : World} {cs : List Value} {t : TypeId} (H : Blk w a cs t) (ha : c ≠ a) (h : Far c w w') : w'.rangeAt a 0 cs := by
  obtain ⟨wx, h1, h2⟩ := h
  rcases h2 with h2 | h2
  · rw [h2]
    exact bl_range H h1
  · exact ((ext_blk H h1).grown h2 (by simp; omega)).range

end Go.Proofs.YtcadfccijeodbaaDoor
