/- The statement FieldEdges holds: every call returns true and leaves its arguments as they were; no condition. -/
import Derived.Test.YtmiapjmdolecbaaLawKit
import Derived.Test.YtmiapjmdolecbaaFldOpen
import Derived.Test.YtmiapjmdolecbaaFldLawEdges
namespace Go.Proofs.Ytmiapjmdolecbaa
open Go.ChangeShapes Go.WideShapes Go.ChangeAt Go.RowKit

theorem fieldEdges_walk {H : Type} (enc : TypeId × Value → H) : LawWalk enc Try.prog 7 Try.f7.params.toList := by
  intro W base args ds ps hval hA hlt hfz
  rw [Try.params7] at hA hval
  obtain ⟨v0, v1, d0, d1, p0, p1, rfl, rfl, rfl, h0, h1⟩ := trodAll_two hA
  obtain ⟨x0, rfl⟩ := open_byte Try.underlying5 (hval 0 5 v0 rfl rfl) h0
  obtain ⟨x1, rfl, _⟩ := open_bool Try.underlying4 (hval 1 4 v1 rfl rfl) h1
  exact fieldEdges_any x0 x1 W

set_option maxRecDepth 100000 in
theorem fieldEdges_lifted (os : Os) (started : os.Started) (H : Type) (enc : TypeId × Value → H) :
    ReturnsInHanded {} Try.checked os 7 .any (Rows.fieldEdgesSpec.pre6 enc Try.prog Try.f7 Rows.fieldEdgesRow.domain false) (Rows.fieldEdgesSpec.post enc Try.prog Try.f7 false true false false) :=
  law_lift (C := Try.checked) (s := Rows.fieldEdgesSpec) law_own law_laid started (by kernel_rfl) Try.func7 rfl (by kernel_rfl) (by kernel_rfl) Try.underlying4
    (fun ds h => by
      match ds, h with
      | [_, _], _ => exact ⟨rfl, rfl, rfl⟩)
    (ChangeSpec.witness6 (enc := enc) (C := Try.checked) false ⟨#[], #[.int .u8 0, .bool false], []⟩ 8 (by kernel_rfl) (by kernel_rfl) (by kernel_rfl) (by kernel_rfl))
    (fieldEdges_walk enc)

theorem fieldEdges_holds : Rows.FieldEdgesSaid :=
  OpenClaim.holds_of_wide 7 Try.f7 rfl rfl rfl rfl rfl rfl rfl ⟨rfl, rfl, rfl, rfl, rfl⟩ rfl rfl rfl rfl rfl (by kernel_rfl) Try.func7 (by kernel_rfl)
    (of_decide_eq_true (by kernel_rfl)) (by unfold Func.isWrapper; first | (rw [if_pos (by decide +kernel)]; kernel_rfl) | (rw [if_neg (by decide +kernel)]; exact ⟨rfl, rfl⟩))
    (fun os started H enc _ => fieldEdges_lifted os started H enc)

end Go.Proofs.Ytmiapjmdolecbaa
