/- The claim itself. -/
import Derived.Test.YtimmnieopifcbaaGreatDoorRows
import Derived.Test.YtimmnieopifcbaaGreatDoorCards
import Derived.Test.YtimmnieopifcbaaGreatDoorTie
import Derived.Test.YtimmnieopifcbaaGreatDoorQz01
import Derived.Test.YtimmnieopifcbaaGreatDoorQz02
import Derived.Test.YtimmnieopifcbaaGreatDoorQz03
import Derived.Test.YtimmnieopifcbaaGreatDoorQz04
import Derived.Test.YtimmnieopifcbaaGreatDoorQz05
import Derived.Test.YtimmnieopifcbaaGreatDoorQz06
import Derived.Test.YtimmnieopifcbaaGreatDoorQz07
import Derived.Test.YtimmnieopifcbaaGreatDoorQz08
import Derived.Test.YtimmnieopifcbaaGreatDoorQz09
import Derived.Test.YtimmnieopifcbaaGreatDoorQz10
import Derived.Test.YtimmnieopifcbaaGreatDoorQz11
import Derived.Test.YtimmnieopifcbaaGreatDoorQz14
namespace Go.Proofs.YtimmnieopifcbaaGreatDoor
open Go.ChangeShapes Go.WideShapes Go.ChangeAt Go.WideMaps Go.WideElems Go.RowKit
set_option linter.unusedVariables false

def wrapOtherLaid : List (String × DataW Unit) := [("portcullis/portcullisref1.k256", Rows.laid_portcullis_portcullisref1_k256), ("portcullis/sha.roots", Rows.laid_portcullis_sha_roots)]
theorem wrapOther_door (os : Os) (args : Array Value) : laidMetH Tryz.prog wrapOtherLaid ((World.doorLaid Tryz.prog 400 os).forCall (fun _ _ => 0) ⟨#[], args, []⟩).memory :=
  laidMetH_of_parts3 (fuel := 8) (laidMet_of_run' 8 (by kernel_rfl) (by kernel_rfl)) (by kernel_rfl) (by kernel_rfl)
def wrapOtherGlob : World → Prop := fun W => GlobR W ∧ GlobK W
theorem wrapOther_glob (W : World) (h : laidMetH Tryz.prog wrapOtherLaid W) : wrapOtherGlob W := ⟨globR_of (by kernel_rfl) h (by simp [wrapOtherLaid]), globK_of (by kernel_rfl) h (by simp [wrapOtherLaid])⟩

set_option maxRecDepth 100000 in
theorem wrapOther_walk {H : Type} (enc : TypeId × Value → H) : LawWalkG wrapOtherGlob enc Tryz.prog 5 Tryz.f5.params.toList := by
  intro W base args ds ps hval hA hlt hfz hG
  rw [Tryz.params5] at hA hval
  obtain ⟨v0, v1, v2, v3, d0, d1, d2, d3, p0, p1, p2, p3, rfl, rfl, rfl, h0, h1, h2, h3⟩ := trodAll_four hA
  obtain ⟨x0, rfl, hx0⟩ := open_num Tryz.underlying23 Tryz.underlying5 (by kernel_rfl) (by kernel_rfl) (hval 0 23 v0 rfl rfl) h0
  obtain ⟨x1, rfl, hx1⟩ := open_num Tryz.underlying23 Tryz.underlying5 (by kernel_rfl) (by kernel_rfl) (hval 1 23 v1 rfl rfl) h1
  obtain ⟨x2, rfl, hx2⟩ := open_num Tryz.underlying23 Tryz.underlying5 (by kernel_rfl) (by kernel_rfl) (hval 2 23 v2 rfl rfl) h2
  obtain ⟨x3, rfl, hx3⟩ := open_num Tryz.underlying23 Tryz.underlying5 (by kernel_rfl) (by kernel_rfl) (hval 3 23 v3 rfl rfl) h3
  exact wrapOther_any x0 x1 x2 x3 W hx0 hx1 hx2 hx3 hG.1 hG.2

set_option maxRecDepth 100000 in
theorem wrapOther_lifted (os : Os) (started : os.Started) (H : Type) (enc : TypeId × Value → H) :
    ReturnsInHanded {} Tryz.checked os 5 .any (fun w args => (Rows.wrapOtherSpec.pre enc Tryz.prog Tryz.f5 [] false w args ∧ laidMetH Tryz.prog wrapOtherLaid w) ∧ sizedMet enc Tryz.prog Tryz.f5 (OpenSpec.ofChange Rows.wrapOtherSpec) false w args)
      (Rows.wrapOtherSpec.post enc Tryz.prog Tryz.f5 false true false false) :=
  law_lift_tied (G := wrapOtherGlob) (C := Tryz.checked) (s := Rows.wrapOtherSpec) wrapOtherLaid law_own law_laid started (by kernel_rfl) Tryz.func5 rfl (by kernel_rfl) (by kernel_rfl) Tryz.underlying4
    (fun ds h => by
      match ds, h with
      | [_, _, _, _], _ => exact ⟨rfl, rfl, rfl⟩)
    (ChangeSpec.witness_shaped (enc := enc) (C := Tryz.checked) (os := os) (X := fun w _ => laidMetH Tryz.prog wrapOtherLaid w) false (World.doorLaid Tryz.prog 400 os) #[.agg #[.int .u8 0, .int .u8 0, .int .u8 0, .int .u8 0, .int .u8 0, .int .u8 0, .int .u8 0, .int .u8 0, .int .u8 0, .int .u8 0, .int .u8 0, .int .u8 0, .int .u8 0, .int .u8 0, .int .u8 0, .int .u8 0, .int .u8 0, .int .u8 0, .int .u8 0, .int .u8 0, .int .u8 0, .int .u8 0, .int .u8 0, .int .u8 0, .int .u8 0, .int .u8 0, .int .u8 0, .int .u8 0, .int .u8 0, .int .u8 0, .int .u8 0, .int .u8 0], .agg #[.int .u8 0, .int .u8 0, .int .u8 0, .int .u8 0, .int .u8 0, .int .u8 0, .int .u8 0, .int .u8 0, .int .u8 0, .int .u8 0, .int .u8 0, .int .u8 0, .int .u8 0, .int .u8 0, .int .u8 0, .int .u8 0, .int .u8 0, .int .u8 0, .int .u8 0, .int .u8 0, .int .u8 0, .int .u8 0, .int .u8 0, .int .u8 0, .int .u8 0, .int .u8 0, .int .u8 0, .int .u8 0, .int .u8 0, .int .u8 0, .int .u8 0, .int .u8 0], .agg #[.int .u8 0, .int .u8 0, .int .u8 0, .int .u8 0, .int .u8 0, .int .u8 0, .int .u8 0, .int .u8 0, .int .u8 0, .int .u8 0, .int .u8 0, .int .u8 0, .int .u8 0, .int .u8 0, .int .u8 0, .int .u8 0, .int .u8 0, .int .u8 0, .int .u8 0, .int .u8 0, .int .u8 0, .int .u8 0, .int .u8 0, .int .u8 0, .int .u8 0, .int .u8 0, .int .u8 0, .int .u8 0, .int .u8 0, .int .u8 0, .int .u8 0, .int .u8 0], .agg #[.int .u8 0, .int .u8 0, .int .u8 0, .int .u8 0, .int .u8 0, .int .u8 0, .int .u8 0, .int .u8 0, .int .u8 0, .int .u8 0, .int .u8 0, .int .u8 0, .int .u8 0, .int .u8 0, .int .u8 0, .int .u8 0, .int .u8 0, .int .u8 0, .int .u8 0, .int .u8 0, .int .u8 0, .int .u8 0, .int .u8 0, .int .u8 0, .int .u8 0, .int .u8 0, .int .u8 0, .int .u8 0, .int .u8 0, .int .u8 0, .int .u8 0, .int .u8 0]] 8 rfl (World.shaped_of_RefB (by kernel_rfl) (by kernel_rfl)) (by kernel_rfl) (by kernel_rfl) (by kernel_rfl) (wrapOther_door os _))
    wrapOther_glob (wrapOther_walk enc)

theorem wrapOther_holds : Rows.WrapOtherSaid :=
  OpenClaim.holds_of_wide 5 Tryz.f5 rfl rfl rfl rfl rfl rfl rfl ⟨rfl, rfl, rfl, rfl, rfl⟩ rfl rfl rfl rfl rfl (by kernel_rfl) Tryz.func5 (by kernel_rfl)
    (of_decide_eq_true (by kernel_rfl)) (by unfold Func.isWrapper; first | (rw [if_pos (by decide +kernel)]; kernel_rfl) | (rw [if_neg (by decide +kernel)]; exact ⟨rfl, rfl⟩))
    (fun os started H enc _ => wrapOther_lifted os started H enc)

theorem wrapOther_card : Rows.WrapOtherCardSaid :=
  Claim7.holds_tied_plain_at .later [] [.data, .data] true (true, "bbe8df7bdf01a4b944fd5c546128874fbfb4325b2b315886777f0190f38842d1") false
    wrapOther_holds (fun _ h => by cases h) (by kernel_rfl) (fun _ h => by cases h) wrapOther_row_tie rfl ⟨rfl, rfl⟩ (by kernel_rfl) rfl
    (fun f fn hf hfn => by
      obtain rfl : f = 5 := Option.some.inj ((show Tryz.prog.funcNamed "portcullis/portcullislaw14.WrapOther" = some 5 by kernel_rfl).symm.trans hf) |>.symm
      obtain rfl : fn = Tryz.f5 := (Option.some.inj (Tryz.func5.symm.trans hfn)).symm
      exact ⟨by kernel_rfl, fun j t ht => by
        rw [Tryz.params5] at ht
        have hm : t ∈ [23, 23, 23, 23] := by simpa using Array.mem_of_getElem? ht
        have hall : ([23, 23, 23, 23].all fun u => !Tryz.prog.wantsStandIn u) = true := by kernel_rfl
        exact (show Tryz.prog.wantsStandIn t = false by simpa using List.all_eq_true.1 hall t hm)⟩)
    (by kernel_rfl)

end Go.Proofs.YtimmnieopifcbaaGreatDoor
