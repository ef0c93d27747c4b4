/- The claim itself. -/
import Derived.Test.YtimmnieopifcbaaGreatDoorRows
import Derived.Test.YtimmnieopifcbaaGreatDoorCards
import Derived.Test.YtimmnieopifcbaaGreatDoorTie
import Derived.Test.YtimmnieopifcbaaGreatDoorQz01
import Derived.Test.YtimmnieopifcbaaGreatDoorQz02
import Derived.Test.YtimmnieopifcbaaGreatDoorQz03
import Derived.Test.YtimmnieopifcbaaGreatDoorQz04
import Derived.Test.YtimmnieopifcbaaGreatDoorQz05
import Derived.Test.YtimmnieopifcbaaGreatDoorQz06
import Derived.Test.YtimmnieopifcbaaGreatDoorQz07
import Derived.Test.YtimmnieopifcbaaGreatDoorQz08
import Derived.Test.YtimmnieopifcbaaGreatDoorQz09
import Derived.Test.YtimmnieopifcbaaGreatDoorQz10
import Derived.Test.YtimmnieopifcbaaGreatDoorQz11
import Derived.Test.YtimmnieopifcbaaGreatDoorQz12
namespace Go.Proofs.YtimmnieopifcbaaGreatDoor
open Go.ChangeShapes Go.WideShapes Go.ChangeAt Go.WideMaps Go.WideElems Go.RowKit
set_option linter.unusedVariables false

def wrapOpensLaid : List (String × DataW Unit) := [("portcullis/portcullisref1.k256", Rows.laid_portcullis_portcullisref1_k256), ("portcullis/sha.roots", Rows.laid_portcullis_sha_roots)]
theorem wrapOpens_door (os : Os) (args : Array Value) : laidMetH Tryz.prog wrapOpensLaid ((World.doorLaid Tryz.prog 400 os).forCall (fun _ _ => 0) ⟨#[], args, []⟩).memory :=
  laidMetH_of_parts3 (fuel := 8) (laidMet_of_run' 8 (by kernel_rfl) (by kernel_rfl)) (by kernel_rfl) (by kernel_rfl)
def wrapOpensGlob : World → Prop := fun W => GlobR W ∧ GlobK W
theorem wrapOpens_glob (W : World) (h : laidMetH Tryz.prog wrapOpensLaid W) : wrapOpensGlob W := ⟨globR_of (by kernel_rfl) h (by simp [wrapOpensLaid]), globK_of (by kernel_rfl) h (by simp [wrapOpensLaid])⟩

set_option maxRecDepth 100000 in
theorem wrapOpens_walk {H : Type} (enc : TypeId × Value → H) : LawWalkG wrapOpensGlob enc Tryz.prog 4 Tryz.f4.params.toList := by
  intro W base args ds ps hval hA hlt hfz hG
  rw [Tryz.params4] at hA hval
  obtain ⟨v0, v1, d0, d1, p0, p1, rfl, rfl, rfl, h0, h1⟩ := trodAll_two hA
  obtain ⟨x0, rfl, hx0⟩ := open_num Tryz.underlying23 Tryz.underlying5 (by kernel_rfl) (by kernel_rfl) (hval 0 23 v0 rfl rfl) h0
  obtain ⟨x1, hx1⟩ := open_bytes Tryz.underlying25 Tryz.underlying5 (by kernel_rfl) (hval 1 25 v1 rfl rfl) h1
  exact wrapOpens_any x0 x1 v1 W hx0 hx1 hG.1 hG.2

set_option maxRecDepth 100000 in
theorem wrapOpens_lifted (os : Os) (started : os.Started) (H : Type) (enc : TypeId × Value → H) :
    ReturnsInHanded {} Tryz.checked os 4 .any (fun w args => (Rows.wrapOpensSpec.pre enc Tryz.prog Tryz.f4 [] false w args ∧ laidMetH Tryz.prog wrapOpensLaid w) ∧ sizedMet enc Tryz.prog Tryz.f4 (OpenSpec.ofChange Rows.wrapOpensSpec) false w args)
      (Rows.wrapOpensSpec.post enc Tryz.prog Tryz.f4 false true false false) :=
  law_lift_tied (G := wrapOpensGlob) (C := Tryz.checked) (s := Rows.wrapOpensSpec) wrapOpensLaid law_own law_laid started (by kernel_rfl) Tryz.func4 rfl (by kernel_rfl) (by kernel_rfl) Tryz.underlying4
    (fun ds h => by
      match ds, h with
      | [_, _], _ => exact ⟨rfl, rfl, rfl⟩)
    (ChangeSpec.witness_shaped (enc := enc) (C := Tryz.checked) (os := os) (X := fun w _ => laidMetH Tryz.prog wrapOpensLaid w) false (World.doorLaid Tryz.prog 400 os) #[.agg #[.int .u8 0, .int .u8 0, .int .u8 0, .int .u8 0, .int .u8 0, .int .u8 0, .int .u8 0, .int .u8 0, .int .u8 0, .int .u8 0, .int .u8 0, .int .u8 0, .int .u8 0, .int .u8 0, .int .u8 0, .int .u8 0, .int .u8 0, .int .u8 0, .int .u8 0, .int .u8 0, .int .u8 0, .int .u8 0, .int .u8 0, .int .u8 0, .int .u8 0, .int .u8 0, .int .u8 0, .int .u8 0, .int .u8 0, .int .u8 0, .int .u8 0, .int .u8 0], .slice none 0 0] 8 rfl (World.shaped_of_RefB (by kernel_rfl) (by kernel_rfl)) (by kernel_rfl) (by kernel_rfl) (by kernel_rfl) (wrapOpens_door os _))
    wrapOpens_glob (wrapOpens_walk enc)

theorem wrapOpens_holds : Rows.WrapOpensSaid :=
  OpenClaim.holds_of_wide 4 Tryz.f4 rfl rfl rfl rfl rfl rfl rfl ⟨rfl, rfl, rfl, rfl, rfl⟩ rfl rfl rfl rfl rfl (by kernel_rfl) Tryz.func4 (by kernel_rfl)
    (of_decide_eq_true (by kernel_rfl)) (by unfold Func.isWrapper; first | (rw [if_pos (by decide +kernel)]; kernel_rfl) | (rw [if_neg (by decide +kernel)]; exact ⟨rfl, rfl⟩))
    (fun os started H enc _ => wrapOpens_lifted os started H enc)

theorem wrapOpens_card : Rows.WrapOpensCardSaid :=
  Claim7.holds_tied_plain_at .later [] [.data, .data] true (true, "bbe8df7bdf01a4b944fd5c546128874fbfb4325b2b315886777f0190f38842d1") false
    wrapOpens_holds (fun _ h => by cases h) (by kernel_rfl) (fun _ h => by cases h) wrapOpens_row_tie rfl ⟨rfl, rfl⟩ (by kernel_rfl) rfl
    (fun f fn hf hfn => by
      obtain rfl : f = 4 := Option.some.inj ((show Tryz.prog.funcNamed "portcullis/portcullislaw14.WrapOpens" = some 4 by kernel_rfl).symm.trans hf) |>.symm
      obtain rfl : fn = Tryz.f4 := (Option.some.inj (Tryz.func4.symm.trans hfn)).symm
      exact ⟨by kernel_rfl, fun j t ht => by
        rw [Tryz.params4] at ht
        have hm : t ∈ [23, 25] := by simpa using Array.mem_of_getElem? ht
        have hall : ([23, 25].all fun u => !Tryz.prog.wantsStandIn u) = true := by kernel_rfl
        exact (show Tryz.prog.wantsStandIn t = false by simpa using List.all_eq_true.1 hall t hm)⟩)
    (by kernel_rfl)

end Go.Proofs.YtimmnieopifcbaaGreatDoor
