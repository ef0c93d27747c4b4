/- The statement PackBack holds: every call returns true and leaves its arguments as they were; no condition. -/
import Derived.Test.YtcgppiniknnjpaaLawKit
import Derived.Test.YtcgppiniknnjpaaPackCurSaid
import Derived.Test.YtcgppiniknnjpaaPackBack
namespace Go.Proofs.Ytcgppiniknnjpaa
open Go.ChangeShapes Go.WideShapes Go.ChangeAt Go.RowKit

theorem packBack_walk {H : Type} (enc : TypeId × Value → H) : LawWalk enc Try.prog 5 Try.f5.params.toList := by
  intro W base args ds ps hval hA hlt hfz
  rw [Try.params5] at hA hval
  obtain ⟨v0, v1, d0, d1, p0, p1, rfl, rfl, rfl, h0, h1⟩ := trodAll_two hA
  obtain ⟨x0, hx0, hw0⟩ := open_numbers Try.underlying23 Try.underlying3 (by kernel_rfl) (hval 0 23 v0 rfl rfl) h0
  obtain ⟨x1, hx1⟩ := open_bytes2 Try.underlying24 Try.underlying22 Try.underlying5 (by kernel_rfl) (by kernel_rfl) (hval 1 24 v1 rfl rfl) h1
  exact packBack_any int_said bytes_said cur_said W hx0 hw0 hx1

set_option maxRecDepth 100000 in
theorem packBack_lifted (os : Os) (started : os.Started) (H : Type) (enc : TypeId × Value → H) :
    ReturnsInHanded {} Try.checked os 5 .any (Rows.packBackSpec.pre6 enc Try.prog Try.f5 Rows.packBackRow.domain false) (Rows.packBackSpec.post enc Try.prog Try.f5 false true false false) :=
  law_lift (C := Try.checked) (s := Rows.packBackSpec) law_own law_laid started (by kernel_rfl) Try.func5 rfl (by kernel_rfl) (by kernel_rfl) Try.underlying4
    (fun ds h => by
      match ds, h with
      | [_, _], _ => exact ⟨rfl, rfl, rfl⟩)
    (ChangeSpec.witness6 (enc := enc) (C := Try.checked) false ⟨#[], #[.slice none 0 0, .slice none 0 0], []⟩ 8 (by kernel_rfl) (by kernel_rfl) (by kernel_rfl) (by kernel_rfl))
    (packBack_walk enc)

theorem packBack_holds : Rows.PackBackSaid :=
  OpenClaim.holds_of_wide 5 Try.f5 rfl rfl rfl rfl rfl rfl rfl ⟨rfl, rfl, rfl, rfl, rfl⟩ rfl rfl rfl rfl rfl (by kernel_rfl) Try.func5 (by kernel_rfl)
    (of_decide_eq_true (by kernel_rfl)) (by unfold Func.isWrapper; first | (rw [if_pos (by decide +kernel)]; kernel_rfl) | (rw [if_neg (by decide +kernel)]; exact ⟨rfl, rfl⟩))
    (fun os started H enc _ => packBack_lifted os started H enc)

end Go.Proofs.Ytcgppiniknnjpaa
