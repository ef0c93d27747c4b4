/- The statement TollRooms holds: every call returns true and leaves its arguments as they were; no condition. -/
import Derived.Test.YtpfjepmdnhmnaaaTollRooms
import Derived.Test.YtpfjepmdnhmnaaaLawKit
namespace Go.Proofs.Ytpfjepmdnhmnaaa
open Go.ChangeShapes Go.WideShapes Go.ChangeAt Go.RowKit

theorem pair_of {l : List Int} (h : l.length = 2) : ∃ a b, l = [a, b] := by
  match l, h with
  | [a, b], _ => exact ⟨a, b, rfl⟩

theorem tollRooms_walk {H : Type} (enc : TypeId × Value → H) : LawWalk enc Try.prog 8 Try.f8.params.toList := by
  intro W base args ds ps hval hA hlt hfz
  rw [Try.params8] at hA hval
  obtain ⟨v0, v1, v2, d0, d1, d2, p0, p1, p2, rfl, rfl, rfl, h0, h1, h2⟩ := trodAll_three hA
  obtain ⟨l0, rfl, n0, _⟩ := open_array_ints Try.underlying41 Try.underlying3 (by kernel_rfl) (by kernel_rfl) (hval 0 41 v0 rfl rfl) h0
  obtain ⟨l1, rfl, n1, _⟩ := open_array_ints Try.underlying41 Try.underlying3 (by kernel_rfl) (by kernel_rfl) (hval 1 41 v1 rfl rfl) h1
  obtain ⟨l2, rfl, n2, _⟩ := open_array_ints Try.underlying41 Try.underlying3 (by kernel_rfl) (by kernel_rfl) (hval 2 41 v2 rfl rfl) h2
  obtain ⟨a0, a1, rfl⟩ := pair_of n0
  obtain ⟨b0, b1, rfl⟩ := pair_of n1
  obtain ⟨c0, c1, rfl⟩ := pair_of n2
  exact tollRooms_any a0 a1 b0 b1 c0 c1 W

set_option maxRecDepth 100000 in
theorem tollRooms_lifted (os : Os) (started : os.Started) (H : Type) (enc : TypeId × Value → H) :
    ReturnsInHanded {} Try.checked os 8 .any (Rows.tollRoomsSpec.pre6 enc Try.prog Try.f8 Rows.tollRoomsRow.domain false) (Rows.tollRoomsSpec.post enc Try.prog Try.f8 false true false false) :=
  law_lift (C := Try.checked) (s := Rows.tollRoomsSpec) law_own law_laid started (by kernel_rfl) Try.func8 rfl (by kernel_rfl) (by kernel_rfl) Try.underlying4
    (fun ds h => by
      match ds, h with
      | [_, _, _], _ => exact ⟨rfl, rfl, rfl⟩)
    (ChangeSpec.witness6 (enc := enc) (C := Try.checked) false ⟨#[], #[.agg #[.int .i64 0, .int .i64 0], .agg #[.int .i64 0, .int .i64 0], .agg #[.int .i64 0, .int .i64 0]], []⟩ 8 (by kernel_rfl) (by kernel_rfl) (by kernel_rfl) (by kernel_rfl))
    (tollRooms_walk enc)

theorem tollRooms_holds : Rows.TollRoomsSaid :=
  OpenClaim.holds_of_wide 8 Try.f8 rfl rfl rfl rfl rfl rfl rfl ⟨rfl, rfl, rfl, rfl, rfl⟩ rfl rfl rfl rfl rfl (by kernel_rfl) Try.func8 (by kernel_rfl)
    (of_decide_eq_true (by kernel_rfl)) (by unfold Func.isWrapper; first | (rw [if_pos (by decide +kernel)]; kernel_rfl) | (rw [if_neg (by decide +kernel)]; exact ⟨rfl, rfl⟩))
    (fun os started H enc _ => tollRooms_lifted os started H enc)

end Go.Proofs.Ytpfjepmdnhmnaaa
