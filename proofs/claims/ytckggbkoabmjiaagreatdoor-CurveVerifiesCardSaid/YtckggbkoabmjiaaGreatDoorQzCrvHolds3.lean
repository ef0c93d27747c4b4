/- The claim itself. -/
import Derived.Test.YtckggbkoabmjiaaGreatDoorRows
import Derived.Test.YtckggbkoabmjiaaGreatDoorCards
import Derived.Test.YtckggbkoabmjiaaGreatDoorTie
import Derived.Test.YtckggbkoabmjiaaGreatDoorQz01
import Derived.Test.YtckggbkoabmjiaaGreatDoorQz02
import Derived.Test.YtckggbkoabmjiaaGreatDoorQz03
import Derived.Test.YtckggbkoabmjiaaGreatDoorQz04
import Derived.Test.YtckggbkoabmjiaaGreatDoorQz05
import Derived.Test.YtckggbkoabmjiaaGreatDoorQz06
import Derived.Test.YtckggbkoabmjiaaGreatDoorQz07
import Derived.Test.YtckggbkoabmjiaaGreatDoorQz08
import Derived.Test.YtckggbkoabmjiaaGreatDoorQz09
import Derived.Test.YtckggbkoabmjiaaGreatDoorQz10
import Derived.Test.YtckggbkoabmjiaaGreatDoorQz11
import Derived.Test.YtckggbkoabmjiaaGreatDoorQz12
import Derived.Test.YtckggbkoabmjiaaGreatDoorQz13
import Derived.Test.YtckggbkoabmjiaaGreatDoorQz14
import Derived.Test.YtckggbkoabmjiaaGreatDoorQz15
import Derived.Test.YtckggbkoabmjiaaGreatDoorQz16
import Derived.Test.YtckggbkoabmjiaaGreatDoorQz20
namespace Go.Proofs.YtckggbkoabmjiaaGreatDoor
open Go.ChangeShapes Go.WideShapes Go.ChangeAt Go.WideMaps Go.WideElems Go.RowKit
set_option linter.unusedVariables false

def curveVerifiesLaid : List (String × DataW Unit) := [("portcullis/portcullisref1.k512", Rows.laid_portcullis_portcullisref1_k512), ("portcullis/portcullisref3.rootOfMinusOne", Rows.laid_portcullis_portcullisref3_rootOfMinusOne), ("portcullis/portcullisref3.order", Rows.laid_portcullis_portcullisref3_order), ("portcullis/portcullisref3.d", Rows.laid_portcullis_portcullisref3_d), ("portcullis/portcullisref3.baseX", Rows.laid_portcullis_portcullisref3_baseX), ("portcullis/portcullisref3.baseY", Rows.laid_portcullis_portcullisref3_baseY), ("portcullis/scalar.tail", Rows.laid_portcullis_scalar_tail), ("portcullis/shb.roots", Rows.laid_portcullis_shb_roots), ("portcullis/curve.d", Rows.laid_portcullis_curve_d)]
theorem curveVerifies_door (os : Os) (args : Array Value) : laidMetH Tryz.prog curveVerifiesLaid ((World.doorLaid Tryz.prog 400 os).forCall (fun _ _ => 0) ⟨#[], args, []⟩).memory :=
  laidMetH_of_parts3 (fuel := 8) (laidMet_of_run' 8 (by kernel_rfl) (by kernel_rfl)) (by kernel_rfl) (by kernel_rfl)
def curveVerifiesGlob : World → Prop := fun W => GlobRQ W ∧ GlobT W ∧ GlobC W ∧ GlobK5 W ∧ GlobO W ∧ GlobD W ∧ Glob W ∧ GlobX W ∧ GlobY W
theorem curveVerifies_glob (W : World) (h : laidMetH Tryz.prog curveVerifiesLaid W) : curveVerifiesGlob W := ⟨globR_ofQ (by kernel_rfl) h (by simp [curveVerifiesLaid]), globT_of (by kernel_rfl) h (by simp [curveVerifiesLaid]), globC_of (by kernel_rfl) h (by simp [curveVerifiesLaid]), globK_ofQ (by kernel_rfl) h (by simp [curveVerifiesLaid]), globO_of (by kernel_rfl) h (by simp [curveVerifiesLaid]), globD_of (by kernel_rfl) h (by simp [curveVerifiesLaid]), globL_of (by kernel_rfl) h (by simp [curveVerifiesLaid]), globX_of (by kernel_rfl) h (by simp [curveVerifiesLaid]), globY_of (by kernel_rfl) h (by simp [curveVerifiesLaid])⟩

set_option maxRecDepth 100000 in
theorem curveVerifies_walk {H : Type} (enc : TypeId × Value → H) : LawWalkG curveVerifiesGlob enc Tryz.prog 3 Tryz.f3.params.toList := by
  intro W base args ds ps hval hA hlt hfz hG
  rw [Tryz.params3] at hA hval
  obtain ⟨v0, v1, v2, d0, d1, d2, p0, p1, p2, rfl, rfl, rfl, h0, h1, h2⟩ := trodAll_three hA
  obtain ⟨x0, rfl, hx0⟩ := open_num Tryz.underlying23 Tryz.underlying5 (by kernel_rfl) (by kernel_rfl) (hval 0 23 v0 rfl rfl) h0
  obtain ⟨x1, rfl, hx1⟩ := open_numN (n := 64) Tryz.underlying25 Tryz.underlying5 (by kernel_rfl) (by kernel_rfl) (hval 1 25 v1 rfl rfl) h1
  obtain ⟨x2, hx2⟩ := open_bytes Tryz.underlying26 Tryz.underlying5 (by kernel_rfl) (hval 2 26 v2 rfl rfl) h2
  exact curveVerifies_any x0 x1 v2 x2 W hx0 hx1 hx2 hG.1 hG.2.1 hG.2.2.1 hG.2.2.2.1 hG.2.2.2.2.1 hG.2.2.2.2.2.1 hG.2.2.2.2.2.2.1 hG.2.2.2.2.2.2.2.1 hG.2.2.2.2.2.2.2.2

set_option maxRecDepth 100000 in
theorem curveVerifies_lifted (os : Os) (started : os.Started) (H : Type) (enc : TypeId × Value → H) :
    ReturnsInHanded {} Tryz.checked os 3 .any (fun w args => (Rows.curveVerifiesSpec.pre enc Tryz.prog Tryz.f3 [] false w args ∧ laidMetH Tryz.prog curveVerifiesLaid w) ∧ sizedMet enc Tryz.prog Tryz.f3 (OpenSpec.ofChange Rows.curveVerifiesSpec) false w args)
      (Rows.curveVerifiesSpec.post enc Tryz.prog Tryz.f3 false true false false) :=
  law_lift_tied (G := curveVerifiesGlob) (C := Tryz.checked) (s := Rows.curveVerifiesSpec) curveVerifiesLaid law_own law_laid started (by kernel_rfl) Tryz.func3 rfl (by kernel_rfl) (by kernel_rfl) Tryz.underlying4
    (fun ds h => by
      match ds, h with
      | [_, _, _], _ => exact ⟨rfl, rfl, rfl⟩)
    (ChangeSpec.witness_shaped (enc := enc) (C := Tryz.checked) (os := os) (X := fun w _ => laidMetH Tryz.prog curveVerifiesLaid w) false (World.doorLaid Tryz.prog 400 os) #[.agg #[.int .u8 0, .int .u8 0, .int .u8 0, .int .u8 0, .int .u8 0, .int .u8 0, .int .u8 0, .int .u8 0, .int .u8 0, .int .u8 0, .int .u8 0, .int .u8 0, .int .u8 0, .int .u8 0, .int .u8 0, .int .u8 0, .int .u8 0, .int .u8 0, .int .u8 0, .int .u8 0, .int .u8 0, .int .u8 0, .int .u8 0, .int .u8 0, .int .u8 0, .int .u8 0, .int .u8 0, .int .u8 0, .int .u8 0, .int .u8 0, .int .u8 0, .int .u8 0], .agg #[.int .u8 0, .int .u8 0, .int .u8 0, .int .u8 0, .int .u8 0, .int .u8 0, .int .u8 0, .int .u8 0, .int .u8 0, .int .u8 0, .int .u8 0, .int .u8 0, .int .u8 0, .int .u8 0, .int .u8 0, .int .u8 0, .int .u8 0, .int .u8 0, .int .u8 0, .int .u8 0, .int .u8 0, .int .u8 0, .int .u8 0, .int .u8 0, .int .u8 0, .int .u8 0, .int .u8 0, .int .u8 0, .int .u8 0, .int .u8 0, .int .u8 0, .int .u8 0, .int .u8 0, .int .u8 0, .int .u8 0, .int .u8 0, .int .u8 0, .int .u8 0, .int .u8 0, .int .u8 0, .int .u8 0, .int .u8 0, .int .u8 0, .int .u8 0, .int .u8 0, .int .u8 0, .int .u8 0, .int .u8 0, .int .u8 0, .int .u8 0, .int .u8 0, .int .u8 0, .int .u8 0, .int .u8 0, .int .u8 0, .int .u8 0, .int .u8 0, .int .u8 0, .int .u8 0, .int .u8 0, .int .u8 0, .int .u8 0, .int .u8 0, .int .u8 0], .slice none 0 0] 8 rfl (World.shaped_of_RefB (by kernel_rfl) (by kernel_rfl)) (by kernel_rfl) (by kernel_rfl) (by kernel_rfl) (curveVerifies_door os _))
    curveVerifies_glob (curveVerifies_walk enc)

theorem curveVerifies_holds : Rows.CurveVerifiesSaid :=
  OpenClaim.holds_of_wide 3 Tryz.f3 rfl rfl rfl rfl rfl rfl rfl ⟨rfl, rfl, rfl, rfl, rfl⟩ rfl rfl rfl rfl rfl (by kernel_rfl) Tryz.func3 (by kernel_rfl)
    (of_decide_eq_true (by kernel_rfl)) (by unfold Func.isWrapper; first | (rw [if_pos (by decide +kernel)]; kernel_rfl) | (rw [if_neg (by decide +kernel)]; exact ⟨rfl, rfl⟩))
    (fun os started H enc _ => curveVerifies_lifted os started H enc)

theorem curveVerifies_card : Rows.CurveVerifiesCardSaid :=
  Claim7.holds_tied_plain_at .later [] [.data, .data, .data, .data, .data, .data, .data, .data, .data] true (true, "e7ba87e54e2d7fcd6133fbd59fa38a48fed1ad45a3692b7a3016313b253104a9") false
    curveVerifies_holds (fun _ h => by cases h) (by kernel_rfl) (fun _ h => by cases h) curveVerifies_row_tie rfl ⟨rfl, rfl⟩ (by kernel_rfl) rfl
    (fun f fn hf hfn => by
      obtain rfl : f = 3 := Option.some.inj ((show Tryz.prog.funcNamed "portcullis/portcullislaw13.CurveVerifies" = some 3 by kernel_rfl).symm.trans hf) |>.symm
      obtain rfl : fn = Tryz.f3 := (Option.some.inj (Tryz.func3.symm.trans hfn)).symm
      exact ⟨by kernel_rfl, fun j t ht => by
        rw [Tryz.params3] at ht
        have hm : t ∈ [23, 25, 26] := by simpa using Array.mem_of_getElem? ht
        have hall : ([23, 25, 26].all fun u => !Tryz.prog.wantsStandIn u) = true := by kernel_rfl
        exact (show Tryz.prog.wantsStandIn t = false by simpa using List.all_eq_true.1 hall t hm)⟩)
    (by kernel_rfl)

end Go.Proofs.YtckggbkoabmjiaaGreatDoor
