/- The statement TollSums holds: every call returns true and leaves its arguments as they were; no condition. -/
import Derived.Test.YtpfjepmdnhmnaaaTollSums
namespace Go.Proofs.Ytpfjepmdnhmnaaa
open Go.ChangeShapes Go.WideShapes Go.ChangeAt Go.RowKit

theorem tollSums_walk {H : Type} (enc : TypeId × Value → H) : LawWalk enc Try.prog 4 Try.f4.params.toList := by
  intro W base args ds ps hval hA hlt hfz
  rw [Try.params4] at hA hval
  obtain ⟨v0, v1, d0, d1, p0, p1, rfl, rfl, rfl, h0, h1⟩ := trodAll_two hA
  obtain ⟨xs, hx⟩ := open_floats Try.underlying30 Try.underlying22 (by kernel_rfl) (hval 0 30 v0 rfl rfl) h0
  obtain ⟨ys, hy⟩ := open_floats Try.underlying30 Try.underlying22 (by kernel_rfl) (hval 1 30 v1 rfl rfl) h1
  exact tollSums_any v0 v1 xs ys W hx hy

set_option maxRecDepth 100000 in
theorem tollSums_lifted (os : Os) (started : os.Started) (H : Type) (enc : TypeId × Value → H) :
    ReturnsInHanded {} Try.checked os 4 .any (Rows.tollSumsSpec.pre6 enc Try.prog Try.f4 Rows.tollSumsRow.domain false) (Rows.tollSumsSpec.post enc Try.prog Try.f4 false true false false) :=
  law_lift (C := Try.checked) (s := Rows.tollSumsSpec) law_own law_laid started (by kernel_rfl) Try.func4 rfl (by kernel_rfl) (by kernel_rfl) Try.underlying4
    (fun ds h => by
      match ds, h with
      | [_, _], _ => exact ⟨rfl, rfl, rfl⟩)
    (ChangeSpec.witness6 (enc := enc) (C := Try.checked) false ⟨#[], #[.slice none 0 0, .slice none 0 0], []⟩ 8 (by kernel_rfl) (by kernel_rfl) (by kernel_rfl) (by kernel_rfl))
    (tollSums_walk enc)

theorem tollSums_holds : Rows.TollSumsSaid :=
  OpenClaim.holds_of_wide 4 Try.f4 rfl rfl rfl rfl rfl rfl rfl ⟨rfl, rfl, rfl, rfl, rfl⟩ rfl rfl rfl rfl rfl (by kernel_rfl) Try.func4 (by kernel_rfl)
    (of_decide_eq_true (by kernel_rfl)) (by unfold Func.isWrapper; first | (rw [if_pos (by decide +kernel)]; kernel_rfl) | (rw [if_neg (by decide +kernel)]; exact ⟨rfl, rfl⟩))
    (fun os started H enc _ => tollSums_lifted os started H enc)

end Go.Proofs.Ytpfjepmdnhmnaaa
