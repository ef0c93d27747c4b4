/- The claim itself. -/
import Derived.Test.YtckggbkoabmjiaaGreatDoorRows
import Derived.Test.YtckggbkoabmjiaaGreatDoorCards
import Derived.Test.YtckggbkoabmjiaaGreatDoorTie
import Derived.Test.YtckggbkoabmjiaaGreatDoorQz01
import Derived.Test.YtckggbkoabmjiaaGreatDoorQz02
import Derived.Test.YtckggbkoabmjiaaGreatDoorQz03
import Derived.Test.YtckggbkoabmjiaaGreatDoorQz04
import Derived.Test.YtckggbkoabmjiaaGreatDoorQz05
import Derived.Test.YtckggbkoabmjiaaGreatDoorQz06
import Derived.Test.YtckggbkoabmjiaaGreatDoorQz07
import Derived.Test.YtckggbkoabmjiaaGreatDoorQz08
import Derived.Test.YtckggbkoabmjiaaGreatDoorQz09
import Derived.Test.YtckggbkoabmjiaaGreatDoorQz10
import Derived.Test.YtckggbkoabmjiaaGreatDoorQz11
import Derived.Test.YtckggbkoabmjiaaGreatDoorQz12
import Derived.Test.YtckggbkoabmjiaaGreatDoorQz13
import Derived.Test.YtckggbkoabmjiaaGreatDoorQz14
import Derived.Test.YtckggbkoabmjiaaGreatDoorQz15
import Derived.Test.YtckggbkoabmjiaaGreatDoorQz16
import Derived.Test.YtckggbkoabmjiaaGreatDoorQz17
import Derived.Test.YtckggbkoabmjiaaGreatDoorQz18
import Derived.Test.YtckggbkoabmjiaaGreatDoorQz19
namespace Go.Proofs.YtckggbkoabmjiaaGreatDoor
open Go.ChangeShapes Go.WideShapes Go.ChangeAt Go.WideMaps Go.WideElems Go.RowKit
set_option linter.unusedVariables false

def curveTurnedLaid : List (String × DataW Unit) := [("portcullis/portcullisref1.k512", Rows.laid_portcullis_portcullisref1_k512), ("portcullis/portcullisref3.rootOfMinusOne", Rows.laid_portcullis_portcullisref3_rootOfMinusOne), ("portcullis/portcullisref3.order", Rows.laid_portcullis_portcullisref3_order), ("portcullis/portcullisref3.d", Rows.laid_portcullis_portcullisref3_d), ("portcullis/portcullisref3.baseX", Rows.laid_portcullis_portcullisref3_baseX), ("portcullis/portcullisref3.baseY", Rows.laid_portcullis_portcullisref3_baseY), ("portcullis/scalar.tail", Rows.laid_portcullis_scalar_tail), ("portcullis/shb.roots", Rows.laid_portcullis_shb_roots), ("portcullis/curve.d", Rows.laid_portcullis_curve_d)]
theorem curveTurned_door (os : Os) (args : Array Value) : laidMetH Tryz.prog curveTurnedLaid ((World.doorLaid Tryz.prog 400 os).forCall (fun _ _ => 0) ⟨#[], args, []⟩).memory :=
  laidMetH_of_parts3 (fuel := 8) (laidMet_of_run' 8 (by kernel_rfl) (by kernel_rfl)) (by kernel_rfl) (by kernel_rfl)
def curveTurnedGlob : World → Prop := fun W => GlobRQ W ∧ GlobT W ∧ GlobC W ∧ GlobK5 W ∧ GlobO W ∧ GlobD W ∧ Glob W ∧ GlobX W ∧ GlobY W
theorem curveTurned_glob (W : World) (h : laidMetH Tryz.prog curveTurnedLaid W) : curveTurnedGlob W := ⟨globR_ofQ (by kernel_rfl) h (by simp [curveTurnedLaid]), globT_of (by kernel_rfl) h (by simp [curveTurnedLaid]), globC_of (by kernel_rfl) h (by simp [curveTurnedLaid]), globK_ofQ (by kernel_rfl) h (by simp [curveTurnedLaid]), globO_of (by kernel_rfl) h (by simp [curveTurnedLaid]), globD_of (by kernel_rfl) h (by simp [curveTurnedLaid]), globL_of (by kernel_rfl) h (by simp [curveTurnedLaid]), globX_of (by kernel_rfl) h (by simp [curveTurnedLaid]), globY_of (by kernel_rfl) h (by simp [curveTurnedLaid])⟩

set_option maxRecDepth 100000 in
theorem curveTurned_walk {H : Type} (enc : TypeId × Value → H) : LawWalkG curveTurnedGlob enc Tryz.prog 4 Tryz.f4.params.toList := by
  intro W base args ds ps hval hA hlt hfz hG
  rw [Tryz.params4] at hA hval
  obtain ⟨v0, v1, v2, v3, v4, d0, d1, d2, d3, d4, p0, p1, p2, p3, p4, rfl, rfl, rfl, h0, h1, h2, h3, h4⟩ := trodAll_five hA
  obtain ⟨x0, rfl, hx0⟩ := open_num Tryz.underlying23 Tryz.underlying5 (by kernel_rfl) (by kernel_rfl) (hval 0 23 v0 rfl rfl) h0
  obtain ⟨x1, hx1⟩ := open_bytes Tryz.underlying26 Tryz.underlying5 (by kernel_rfl) (hval 1 26 v1 rfl rfl) h1
  obtain ⟨x2, rfl, _, _, hw2⟩ := open_int Tryz.underlying3 (hval 2 3 v2 rfl rfl) h2
  obtain ⟨x3, rfl, _, _, hw3⟩ := open_int Tryz.underlying3 (hval 3 3 v3 rfl rfl) h3
  obtain ⟨x4, rfl⟩ := open_byte Tryz.underlying5 (hval 4 5 v4 rfl rfl) h4
  exact curveTurned_any x0 v1 x1 x2 x3 x4 W hx0 hx1 hG.1 hG.2.1 hG.2.2.1 hG.2.2.2.1 hG.2.2.2.2.1 hG.2.2.2.2.2.1 hG.2.2.2.2.2.2.1 hG.2.2.2.2.2.2.2.1 hG.2.2.2.2.2.2.2.2

set_option maxRecDepth 100000 in
theorem curveTurned_lifted (os : Os) (started : os.Started) (H : Type) (enc : TypeId × Value → H) :
    ReturnsInHanded {} Tryz.checked os 4 .any (fun w args => (Rows.curveTurnedSpec.pre enc Tryz.prog Tryz.f4 [] false w args ∧ laidMetH Tryz.prog curveTurnedLaid w) ∧ sizedMet enc Tryz.prog Tryz.f4 (OpenSpec.ofChange Rows.curveTurnedSpec) false w args)
      (Rows.curveTurnedSpec.post enc Tryz.prog Tryz.f4 false true false false) :=
  law_lift_tied (G := curveTurnedGlob) (C := Tryz.checked) (s := Rows.curveTurnedSpec) curveTurnedLaid law_own law_laid started (by kernel_rfl) Tryz.func4 rfl (by kernel_rfl) (by kernel_rfl) Tryz.underlying4
    (fun ds h => by
      match ds, h with
      | [_, _, _, _, _], _ => exact ⟨rfl, rfl, rfl⟩)
    (ChangeSpec.witness_shaped (enc := enc) (C := Tryz.checked) (os := os) (X := fun w _ => laidMetH Tryz.prog curveTurnedLaid w) false (World.doorLaid Tryz.prog 400 os) #[.agg #[.int .u8 0, .int .u8 0, .int .u8 0, .int .u8 0, .int .u8 0, .int .u8 0, .int .u8 0, .int .u8 0, .int .u8 0, .int .u8 0, .int .u8 0, .int .u8 0, .int .u8 0, .int .u8 0, .int .u8 0, .int .u8 0, .int .u8 0, .int .u8 0, .int .u8 0, .int .u8 0, .int .u8 0, .int .u8 0, .int .u8 0, .int .u8 0, .int .u8 0, .int .u8 0, .int .u8 0, .int .u8 0, .int .u8 0, .int .u8 0, .int .u8 0, .int .u8 0], .slice none 0 0, .int .i64 0, .int .i64 0, .int .u8 0] 8 rfl (World.shaped_of_RefB (by kernel_rfl) (by kernel_rfl)) (by kernel_rfl) (by kernel_rfl) (by kernel_rfl) (curveTurned_door os _))
    curveTurned_glob (curveTurned_walk enc)

theorem curveTurned_holds : Rows.CurveTurnedSaid :=
  OpenClaim.holds_of_wide 4 Tryz.f4 rfl rfl rfl rfl rfl rfl rfl ⟨rfl, rfl, rfl, rfl, rfl⟩ rfl rfl rfl rfl rfl (by kernel_rfl) Tryz.func4 (by kernel_rfl)
    (of_decide_eq_true (by kernel_rfl)) (by unfold Func.isWrapper; first | (rw [if_pos (by decide +kernel)]; kernel_rfl) | (rw [if_neg (by decide +kernel)]; exact ⟨rfl, rfl⟩))
    (fun os started H enc _ => curveTurned_lifted os started H enc)

theorem curveTurned_card : Rows.CurveTurnedCardSaid :=
  Claim7.holds_tied_plain_at .later [] [.data, .data, .data, .data, .data, .data, .data, .data, .data] true (true, "e7ba87e54e2d7fcd6133fbd59fa38a48fed1ad45a3692b7a3016313b253104a9") false
    curveTurned_holds (fun _ h => by cases h) (by kernel_rfl) (fun _ h => by cases h) curveTurned_row_tie rfl ⟨rfl, rfl⟩ (by kernel_rfl) rfl
    (fun f fn hf hfn => by
      obtain rfl : f = 4 := Option.some.inj ((show Tryz.prog.funcNamed "portcullis/portcullislaw13.CurveTurned" = some 4 by kernel_rfl).symm.trans hf) |>.symm
      obtain rfl : fn = Tryz.f4 := (Option.some.inj (Tryz.func4.symm.trans hfn)).symm
      exact ⟨by kernel_rfl, fun j t ht => by
        rw [Tryz.params4] at ht
        have hm : t ∈ [23, 26, 3, 3, 5] := by simpa using Array.mem_of_getElem? ht
        have hall : ([23, 26, 3, 3, 5].all fun u => !Tryz.prog.wantsStandIn u) = true := by kernel_rfl
        exact (show Tryz.prog.wantsStandIn t = false by simpa using List.all_eq_true.1 hall t hm)⟩)
    (by kernel_rfl)

end Go.Proofs.YtckggbkoabmjiaaGreatDoor
