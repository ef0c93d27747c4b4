/- The statement PolyPads holds: every call returns true and leaves its arguments as they were; no condition. -/
import Derived.Test.YtelenldabjmjbaaAll1
import Derived.Test.YtelenldabjmjbaaAll3
namespace Go.Proofs.Ytelenldabjmjbaa
open Go.ChangeShapes Go.WideShapes Go.ChangeAt Go.RowKit

theorem polyPads_walk {H : Type} (enc : TypeId × Value → H) : LawWalk enc Try.prog 5 Try.f5.params.toList := by
  intro W base args ds ps hval hA hlt hfz
  rw [Try.params5] at hA hval
  obtain ⟨v0, v1, v2, d0, d1, d2, p0, p1, p2, rfl, rfl, rfl, h0, h1, h2⟩ := trodAll_three hA
  obtain ⟨x0, rfl, hx0⟩ := open_num Try.underlying23 Try.underlying5 (by kernel_rfl) (by kernel_rfl) (hval 0 23 v0 rfl rfl) h0
  obtain ⟨x1, hx1⟩ := open_bytes Try.underlying27 Try.underlying5 (by kernel_rfl) (hval 1 27 v1 rfl rfl) h1
  obtain ⟨x2, rfl⟩ := open_byte Try.underlying5 (hval 2 5 v2 rfl rfl) h2
  exact polyPads_any x0 x1 v1 x2 W hx0 hx1

set_option maxRecDepth 100000 in
theorem polyPads_lifted (os : Os) (started : os.Started) (H : Type) (enc : TypeId × Value → H) :
    ReturnsInHanded {} Try.checked os 5 .any (Rows.polyPadsSpec.pre6 enc Try.prog Try.f5 Rows.polyPadsRow.domain false) (Rows.polyPadsSpec.post enc Try.prog Try.f5 false true false false) :=
  law_lift (C := Try.checked) (s := Rows.polyPadsSpec) law_own law_laid started (by kernel_rfl) Try.func5 rfl (by kernel_rfl) (by kernel_rfl) Try.underlying4
    (fun ds h => by
      match ds, h with
      | [_, _, _], _ => exact ⟨rfl, rfl, rfl⟩)
    (ChangeSpec.witness6 (enc := enc) (C := Try.checked) false ⟨#[], #[.agg #[.int .u8 0, .int .u8 0, .int .u8 0, .int .u8 0, .int .u8 0, .int .u8 0, .int .u8 0, .int .u8 0, .int .u8 0, .int .u8 0, .int .u8 0, .int .u8 0, .int .u8 0, .int .u8 0, .int .u8 0, .int .u8 0, .int .u8 0, .int .u8 0, .int .u8 0, .int .u8 0, .int .u8 0, .int .u8 0, .int .u8 0, .int .u8 0, .int .u8 0, .int .u8 0, .int .u8 0, .int .u8 0, .int .u8 0, .int .u8 0, .int .u8 0, .int .u8 0], .slice none 0 0, .int .u8 0], []⟩ 8 (by kernel_rfl) (by kernel_rfl) (by kernel_rfl) (by kernel_rfl))
    (polyPads_walk enc)

theorem polyPads_holds : Rows.PolyPadsSaid :=
  OpenClaim.holds_of_wide 5 Try.f5 rfl rfl rfl rfl rfl rfl rfl ⟨rfl, rfl, rfl, rfl, rfl⟩ rfl rfl rfl rfl rfl (by kernel_rfl) Try.func5 (by kernel_rfl)
    (of_decide_eq_true (by kernel_rfl)) (by unfold Func.isWrapper; first | (rw [if_pos (by decide +kernel)]; kernel_rfl) | (rw [if_neg (by decide +kernel)]; exact ⟨rfl, rfl⟩))
    (fun os started H enc _ => polyPads_lifted os started H enc)

end Go.Proofs.Ytelenldabjmjbaa
