/- A listed variable's cells are kept by whatever leaves old memory alone. No program. Each theorem names its own conditions. -/
import Derived.Test.YtcadfccijeodbaaDoorArrKit
import Derived.Test.YtcadfccijeodbaaDoorDetKit
namespace Go.Proofs.YtcadfccijeodbaaDoor
open Go.RowKit
set_option linter.unusedVariables false

theorem glob_ext {w w' : World} {b : Nat} {v : Value} {vs : List Value} (h : w.rangeAt b 0 (v :: vs)) (hb : Ext w w') : w'.rangeAt b 0 (v :: vs) := by
  have h0 := h 0 v rfl
  have hl : b < w.heap.size := by
    apply Classical.byContradiction
    intro hn
    have e : w.heap[b]? = none := by rw [Array.getElem?_eq_none]; omega
    simp [World.cell?, e] at h0
  intro j u hj
  have h1 := h j u hj
  have e := hb.block b hl
  simpa [World.cell?, e] using h1

end Go.Proofs.YtcadfccijeodbaaDoor
