/- The statement ImageCuts holds: every call returns true and leaves its arguments as they were; no condition. -/
import Derived.Test.YtjnnhkodkbhbbaaAllC1
import Derived.Test.YtjnnhkodkbhbbaaAllC3
import Derived.Test.YtjnnhkodkbhbbaaAllR1
namespace Go.Proofs.Ytjnnhkodkbhbbaa
open Go.ChangeShapes Go.WideShapes Go.ChangeAt Go.RowKit

set_option maxRecDepth 100000 in
theorem imageCuts_walk {H : Type} (enc : TypeId × Value → H) : LawWalk enc Try.prog 3 Try.f3.params.toList := by
  intro W base args ds ps hval hA hlt hfz
  rw [Try.params3] at hA hval
  obtain ⟨v0, d0, rfl, rfl, h0⟩ := trodAll_one hA
  obtain ⟨x0, hx0⟩ := open_bytes Try.underlying22 Try.underlying5 (by kernel_rfl) (hval 0 22 v0 rfl rfl) h0
  exact imgCuts_any img_said x0 v0 W hx0

set_option maxRecDepth 100000 in
theorem imageCuts_lifted (os : Os) (started : os.Started) (H : Type) (enc : TypeId × Value → H) :
    ReturnsInHanded {} Try.checked os 3 .any (Rows.imageCutsSpec.pre6 enc Try.prog Try.f3 Rows.imageCutsRow.domain false) (Rows.imageCutsSpec.post enc Try.prog Try.f3 false true false false) :=
  law_lift (C := Try.checked) (s := Rows.imageCutsSpec) law_own law_laid started (by kernel_rfl) Try.func3 rfl (by kernel_rfl) (by kernel_rfl) Try.underlying4
    (fun ds h => by
      match ds, h with
      | [_], _ => exact ⟨rfl, rfl, rfl⟩)
    (ChangeSpec.witness6 (enc := enc) (C := Try.checked) false ⟨#[], #[.slice none 0 0], []⟩ 8 (by kernel_rfl) (by kernel_rfl) (by kernel_rfl) (by kernel_rfl))
    (imageCuts_walk enc)

theorem imageCuts_holds : Rows.ImageCutsSaid :=
  OpenClaim.holds_of_wide 3 Try.f3 rfl rfl rfl rfl rfl rfl rfl ⟨rfl, rfl, rfl, rfl, rfl⟩ rfl rfl rfl rfl rfl (by kernel_rfl) Try.func3 (by kernel_rfl)
    (of_decide_eq_true (by kernel_rfl)) (by unfold Func.isWrapper; first | (rw [if_pos (by decide +kernel)]; kernel_rfl) | (rw [if_neg (by decide +kernel)]; exact ⟨rfl, rfl⟩))
    (fun os started H enc _ => imageCuts_lifted os started H enc)

end Go.Proofs.Ytjnnhkodkbhbbaa
