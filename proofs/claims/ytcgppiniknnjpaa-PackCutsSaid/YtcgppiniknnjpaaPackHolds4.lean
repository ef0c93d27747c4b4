/- The statement PackCuts holds: every call returns true and leaves its arguments as they were; no condition. -/
import Derived.Test.YtcgppiniknnjpaaLawKit
import Derived.Test.YtcgppiniknnjpaaPackCurSaid
import Derived.Test.YtcgppiniknnjpaaPackCuts
namespace Go.Proofs.Ytcgppiniknnjpaa
open Go.ChangeShapes Go.WideShapes Go.ChangeAt Go.RowKit

theorem packCuts_walk {H : Type} (enc : TypeId × Value → H) : LawWalk enc Try.prog 6 Try.f6.params.toList := by
  intro W base args ds ps hval hA hlt hfz
  rw [Try.params6] at hA hval
  obtain ⟨v0, v1, v2, d0, d1, d2, p0, p1, p2, rfl, rfl, rfl, h0, h1, h2⟩ := trodAll_three hA
  obtain ⟨x0, hx0, hw0⟩ := open_numbers Try.underlying23 Try.underlying3 (by kernel_rfl) (hval 0 23 v0 rfl rfl) h0
  obtain ⟨x1, hx1⟩ := open_bytes2 Try.underlying24 Try.underlying22 Try.underlying5 (by kernel_rfl) (by kernel_rfl) (hval 1 24 v1 rfl rfl) h1
  obtain ⟨x2, rfl, _, _, hw2⟩ := open_int Try.underlying3 (hval 2 3 v2 rfl rfl) h2
  exact packCuts_any int_said cur_said W hx0 hw0 hx1 hw2

set_option maxRecDepth 100000 in
theorem packCuts_lifted (os : Os) (started : os.Started) (H : Type) (enc : TypeId × Value → H) :
    ReturnsInHanded {} Try.checked os 6 .any (Rows.packCutsSpec.pre6 enc Try.prog Try.f6 Rows.packCutsRow.domain false) (Rows.packCutsSpec.post enc Try.prog Try.f6 false true false false) :=
  law_lift (C := Try.checked) (s := Rows.packCutsSpec) law_own law_laid started (by kernel_rfl) Try.func6 rfl (by kernel_rfl) (by kernel_rfl) Try.underlying4
    (fun ds h => by
      match ds, h with
      | [_, _, _], _ => exact ⟨rfl, rfl, rfl⟩)
    (ChangeSpec.witness6 (enc := enc) (C := Try.checked) false ⟨#[], #[.slice none 0 0, .slice none 0 0, .int .i64 0], []⟩ 8 (by kernel_rfl) (by kernel_rfl) (by kernel_rfl) (by kernel_rfl))
    (packCuts_walk enc)

theorem packCuts_holds : Rows.PackCutsSaid :=
  OpenClaim.holds_of_wide 6 Try.f6 rfl rfl rfl rfl rfl rfl rfl ⟨rfl, rfl, rfl, rfl, rfl⟩ rfl rfl rfl rfl rfl (by kernel_rfl) Try.func6 (by kernel_rfl)
    (of_decide_eq_true (by kernel_rfl)) (by unfold Func.isWrapper; first | (rw [if_pos (by decide +kernel)]; kernel_rfl) | (rw [if_neg (by decide +kernel)]; exact ⟨rfl, rfl⟩))
    (fun os started H enc _ => packCuts_lifted os started H enc)

end Go.Proofs.Ytcgppiniknnjpaa
