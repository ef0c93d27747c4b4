/- The statement LadderCanon holds: every call returns true and leaves its arguments as they were; no condition. -/
import Derived.Test.YtdjdalaghfknoaaAllR1
namespace Go.Proofs.Ytdjdalaghfknoaa
open Go.ChangeShapes Go.WideShapes Go.ChangeAt Go.RowKit

theorem ladderCanon_walk {H : Type} (enc : TypeId × Value → H) : LawWalk enc Try.prog 9 Try.f9.params.toList := by
  intro W base args ds ps hval hA hlt hfz
  rw [Try.params9] at hA hval
  obtain ⟨v0, v1, d0, d1, p0, p1, rfl, rfl, rfl, h0, h1⟩ := trodAll_two hA
  obtain ⟨x0, rfl, hx0⟩ := open_num Try.underlying23 Try.underlying5 (by kernel_rfl) (by kernel_rfl) (hval 0 23 v0 rfl rfl) h0
  obtain ⟨x1, rfl⟩ := open_byte Try.underlying5 (hval 1 5 v1 rfl rfl) h1
  exact ladderCanon_any _ _ W hx0

set_option maxRecDepth 100000 in
theorem ladderCanon_lifted (os : Os) (started : os.Started) (H : Type) (enc : TypeId × Value → H) :
    ReturnsInHanded {} Try.checked os 9 .any (Rows.ladderCanonSpec.pre6 enc Try.prog Try.f9 Rows.ladderCanonRow.domain false) (Rows.ladderCanonSpec.post enc Try.prog Try.f9 false true false false) :=
  law_lift (C := Try.checked) (s := Rows.ladderCanonSpec) law_own law_laid started (by kernel_rfl) Try.func9 rfl (by kernel_rfl) (by kernel_rfl) Try.underlying4
    (fun ds h => by
      match ds, h with
      | [_, _], _ => exact ⟨rfl, rfl, rfl⟩)
    (ChangeSpec.witness6 (enc := enc) (C := Try.checked) false ⟨#[], #[.agg #[.int .u8 0, .int .u8 0, .int .u8 0, .int .u8 0, .int .u8 0, .int .u8 0, .int .u8 0, .int .u8 0, .int .u8 0, .int .u8 0, .int .u8 0, .int .u8 0, .int .u8 0, .int .u8 0, .int .u8 0, .int .u8 0, .int .u8 0, .int .u8 0, .int .u8 0, .int .u8 0, .int .u8 0, .int .u8 0, .int .u8 0, .int .u8 0, .int .u8 0, .int .u8 0, .int .u8 0, .int .u8 0, .int .u8 0, .int .u8 0, .int .u8 0, .int .u8 0], .int .u8 0], []⟩ 8 (by kernel_rfl) (by kernel_rfl) (by kernel_rfl) (by kernel_rfl))
    (ladderCanon_walk enc)

theorem ladderCanon_holds : Rows.LadderCanonSaid :=
  OpenClaim.holds_of_wide 9 Try.f9 rfl rfl rfl rfl rfl rfl rfl ⟨rfl, rfl, rfl, rfl, rfl⟩ rfl rfl rfl rfl rfl (by kernel_rfl) Try.func9 (by kernel_rfl)
    (of_decide_eq_true (by kernel_rfl)) (by unfold Func.isWrapper; first | (rw [if_pos (by decide +kernel)]; kernel_rfl) | (rw [if_neg (by decide +kernel)]; exact ⟨rfl, rfl⟩))
    (fun os started H enc _ => ladderCanon_lifted os started H enc)

end Go.Proofs.Ytdjdalaghfknoaa
