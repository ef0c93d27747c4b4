/- The statement TollOrders holds: every call returns true and leaves its arguments as they were; no condition. -/
import Derived.Test.YtpfjepmdnhmnaaaTollOrders
namespace Go.Proofs.Ytpfjepmdnhmnaaa
open Go.ChangeShapes Go.WideShapes Go.ChangeAt Go.RowKit

theorem tollOrders_walk {H : Type} (enc : TypeId × Value → H) : LawWalk enc Try.prog 7 Try.f7.params.toList := by
  intro W base args ds ps hval hA hlt hfz
  rw [Try.params7] at hA hval
  obtain ⟨v0, v1, v2, d0, d1, d2, p0, p1, p2, rfl, rfl, rfl, h0, h1, h2⟩ := trodAll_three hA
  obtain ⟨xs, hx, _⟩ := open_numbers Try.underlying39 Try.underlying3 (by kernel_rfl) (hval 0 39 v0 rfl rfl) h0
  obtain ⟨ys, hy, _⟩ := open_numbers Try.underlying39 Try.underlying3 (by kernel_rfl) (hval 1 39 v1 rfl rfl) h1
  obtain ⟨n, rfl, rfl, rfl, wn⟩ := open_int Try.underlying3 (hval 2 3 v2 rfl rfl) h2
  exact tollOrders_any v0 v1 xs ys n W hx hy

set_option maxRecDepth 100000 in
theorem tollOrders_lifted (os : Os) (started : os.Started) (H : Type) (enc : TypeId × Value → H) :
    ReturnsInHanded {} Try.checked os 7 .any (Rows.tollOrdersSpec.pre6 enc Try.prog Try.f7 Rows.tollOrdersRow.domain false) (Rows.tollOrdersSpec.post enc Try.prog Try.f7 false true false false) :=
  law_lift (C := Try.checked) (s := Rows.tollOrdersSpec) law_own law_laid started (by kernel_rfl) Try.func7 rfl (by kernel_rfl) (by kernel_rfl) Try.underlying4
    (fun ds h => by
      match ds, h with
      | [_, _, _], _ => exact ⟨rfl, rfl, rfl⟩)
    (ChangeSpec.witness6 (enc := enc) (C := Try.checked) false ⟨#[], #[.slice none 0 0, .slice none 0 0, .int .i64 0], []⟩ 8 (by kernel_rfl) (by kernel_rfl) (by kernel_rfl) (by kernel_rfl))
    (tollOrders_walk enc)

theorem tollOrders_holds : Rows.TollOrdersSaid :=
  OpenClaim.holds_of_wide 7 Try.f7 rfl rfl rfl rfl rfl rfl rfl ⟨rfl, rfl, rfl, rfl, rfl⟩ rfl rfl rfl rfl rfl (by kernel_rfl) Try.func7 (by kernel_rfl)
    (of_decide_eq_true (by kernel_rfl)) (by unfold Func.isWrapper; first | (rw [if_pos (by decide +kernel)]; kernel_rfl) | (rw [if_neg (by decide +kernel)]; exact ⟨rfl, rfl⟩))
    (fun os started H enc _ => tollOrders_lifted os started H enc)

end Go.Proofs.Ytpfjepmdnhmnaaa
