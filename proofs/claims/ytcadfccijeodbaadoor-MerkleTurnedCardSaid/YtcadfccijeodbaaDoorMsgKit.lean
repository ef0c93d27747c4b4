/- Bytes that lie in a block below, whatever is made above. Each theorem names its own conditions. -/
import Derived.Test.YtcadfccijeodbaaDoorRowMore
import Derived.Test.YtcadfccijeodbaaDoorArrKit
namespace Go.Proofs.YtcadfccijeodbaaDoor
open Go.RowKit
set_option linter.unusedVariables false
set_option linter.unusedSimpArgs false

/-- Bytes that lie in a block, below B0. -/
def MsgAt (B0 c off : Nat) (m : List UInt8) (w : World) : Prop := c < B0 ∧ B0 ≤ w.heap.size ∧ ∀ j, j < m.length → w.cell? ⟨c, off + j, none⟩ = some (.int .u8 ((m.getD j 0).toNat : Int))
theorem MsgAt.ext {B0 c off : Nat} {m : List UInt8} {w w' : World} (h : MsgAt B0 c off m w) (he : Ext w w') : MsgAt B0 c off m w' :=
  ⟨h.1, Nat.le_trans h.2.1 he.size, fun j hj => by rw [← h.2.2 j hj]; exact he.cell (p := ⟨c, off + j, none⟩) (Nat.lt_of_lt_of_le h.1 h.2.1)⟩
theorem MsgAt.drew {B0 c off : Nat} {m : List UInt8} {w : World} (h : MsgAt B0 c off m w) : MsgAt B0 c off m w.drew := h
theorem MsgAt.far {B0 c off : Nat} {m : List UInt8} {w : World} (h : MsgAt B0 c off m w) {a : Addr} (ha : a.block ≠ c) (v : Value) : MsgAt B0 c off m (w.setCell a v) :=
  ⟨h.1, by simpa [World.setCell] using h.2.1, fun j hj => by rw [← h.2.2 j hj]; exact World.cell?_setCell_other _ _ _ _ (by rintro rfl; exact ha rfl)⟩
theorem MsgAt.grown {B0 c off : Nat} {m : List UInt8} {w w' : World} {r : Option Nat} (h : MsgAt B0 c off m w) (hg : w.grownBy w' r) (hr : r ≠ some c) : MsgAt B0 c off m w' :=
  ⟨h.1, Nat.le_trans h.2.1 hg.size, fun j hj => by
    rw [← h.2.2 j hj]
    have := hg.block c (Nat.lt_of_lt_of_le h.1 h.2.1) (fun e => hr e.symm)
    simp [World.cell?, this]⟩
theorem not_bytes {K : IntKind} (hK : K ≠ .u8) {zs : List Int} {i : Nat} {z : Int} : (ints K zs)[i]? ≠ some (.int .u8 z) := by
  unfold ints
  rw [List.getElem?_map]
  cases zs[i]? <;> simp [hK]

end Go.Proofs.YtcadfccijeodbaaDoor
