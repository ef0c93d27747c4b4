/- The statement ImageEnds holds: every call returns true and leaves its arguments as they were; no condition. -/
import Derived.Test.YtjnnhkodkbhbbaaAllC1
import Derived.Test.YtjnnhkodkbhbbaaAllC3
import Derived.Test.YtjnnhkodkbhbbaaAllR1
namespace Go.Proofs.Ytjnnhkodkbhbbaa
open Go.ChangeShapes Go.WideShapes Go.ChangeAt Go.RowKit

set_option maxRecDepth 100000 in
theorem imageEnds_walk {H : Type} (enc : TypeId × Value → H) : LawWalk enc Try.prog 7 Try.f7.params.toList := by
  intro W base args ds ps hval hA hlt hfz
  rw [Try.params7] at hA hval
  obtain ⟨v0, v1, d0, d1, p0, p1, rfl, rfl, rfl, h0, h1⟩ := trodAll_two hA
  obtain ⟨x0, rfl, _, _, hw0⟩ := open_int Try.underlying3 (hval 0 3 v0 rfl rfl) h0
  obtain ⟨x1, rfl⟩ := open_byte Try.underlying5 (hval 1 5 v1 rfl rfl) h1
  exact imgEnds_any img_said x0 x1 W

set_option maxRecDepth 100000 in
theorem imageEnds_lifted (os : Os) (started : os.Started) (H : Type) (enc : TypeId × Value → H) :
    ReturnsInHanded {} Try.checked os 7 .any (Rows.imageEndsSpec.pre6 enc Try.prog Try.f7 Rows.imageEndsRow.domain false) (Rows.imageEndsSpec.post enc Try.prog Try.f7 false true false false) :=
  law_lift (C := Try.checked) (s := Rows.imageEndsSpec) law_own law_laid started (by kernel_rfl) Try.func7 rfl (by kernel_rfl) (by kernel_rfl) Try.underlying4
    (fun ds h => by
      match ds, h with
      | [_, _], _ => exact ⟨rfl, rfl, rfl⟩)
    (ChangeSpec.witness6 (enc := enc) (C := Try.checked) false ⟨#[], #[.int .i64 0, .int .u8 0], []⟩ 8 (by kernel_rfl) (by kernel_rfl) (by kernel_rfl) (by kernel_rfl))
    (imageEnds_walk enc)

theorem imageEnds_holds : Rows.ImageEndsSaid :=
  OpenClaim.holds_of_wide 7 Try.f7 rfl rfl rfl rfl rfl rfl rfl ⟨rfl, rfl, rfl, rfl, rfl⟩ rfl rfl rfl rfl rfl (by kernel_rfl) Try.func7 (by kernel_rfl)
    (of_decide_eq_true (by kernel_rfl)) (by unfold Func.isWrapper; first | (rw [if_pos (by decide +kernel)]; kernel_rfl) | (rw [if_neg (by decide +kernel)]; exact ⟨rfl, rfl⟩))
    (fun os started H enc _ => imageEnds_lifted os started H enc)

end Go.Proofs.Ytjnnhkodkbhbbaa
