/- The statement PolyEdges holds: every call returns true and leaves its arguments as they were; no condition. -/
import Derived.Test.YtelenldabjmjbaaAll1
import Derived.Test.YtelenldabjmjbaaAll3
namespace Go.Proofs.Ytelenldabjmjbaa
open Go.ChangeShapes Go.WideShapes Go.ChangeAt Go.RowKit

theorem polyEdges_walk {H : Type} (enc : TypeId × Value → H) : LawWalk enc Try.prog 4 Try.f4.params.toList := by
  intro W base args ds ps hval hA hlt hfz
  rw [Try.params4] at hA hval
  obtain ⟨v0, v1, v2, d0, d1, d2, p0, p1, p2, rfl, rfl, rfl, h0, h1, h2⟩ := trodAll_three hA
  obtain ⟨x0, rfl⟩ := open_byte Try.underlying5 (hval 0 5 v0 rfl rfl) h0
  obtain ⟨x1, rfl⟩ := open_byte Try.underlying5 (hval 1 5 v1 rfl rfl) h1
  obtain ⟨x2, rfl, _, _, hw2⟩ := open_int Try.underlying3 (hval 2 3 v2 rfl rfl) h2
  exact polyEdges_any x0 x1 x2 W (i64_lo hw2) (i64_hi hw2)

set_option maxRecDepth 100000 in
theorem polyEdges_lifted (os : Os) (started : os.Started) (H : Type) (enc : TypeId × Value → H) :
    ReturnsInHanded {} Try.checked os 4 .any (Rows.polyEdgesSpec.pre6 enc Try.prog Try.f4 Rows.polyEdgesRow.domain false) (Rows.polyEdgesSpec.post enc Try.prog Try.f4 false true false false) :=
  law_lift (C := Try.checked) (s := Rows.polyEdgesSpec) law_own law_laid started (by kernel_rfl) Try.func4 rfl (by kernel_rfl) (by kernel_rfl) Try.underlying4
    (fun ds h => by
      match ds, h with
      | [_, _, _], _ => exact ⟨rfl, rfl, rfl⟩)
    (ChangeSpec.witness6 (enc := enc) (C := Try.checked) false ⟨#[], #[.int .u8 0, .int .u8 0, .int .i64 0], []⟩ 8 (by kernel_rfl) (by kernel_rfl) (by kernel_rfl) (by kernel_rfl))
    (polyEdges_walk enc)

theorem polyEdges_holds : Rows.PolyEdgesSaid :=
  OpenClaim.holds_of_wide 4 Try.f4 rfl rfl rfl rfl rfl rfl rfl ⟨rfl, rfl, rfl, rfl, rfl⟩ rfl rfl rfl rfl rfl (by kernel_rfl) Try.func4 (by kernel_rfl)
    (of_decide_eq_true (by kernel_rfl)) (by unfold Func.isWrapper; first | (rw [if_pos (by decide +kernel)]; kernel_rfl) | (rw [if_neg (by decide +kernel)]; exact ⟨rfl, rfl⟩))
    (fun os started H enc _ => polyEdges_lifted os started H enc)

end Go.Proofs.Ytelenldabjmjbaa
