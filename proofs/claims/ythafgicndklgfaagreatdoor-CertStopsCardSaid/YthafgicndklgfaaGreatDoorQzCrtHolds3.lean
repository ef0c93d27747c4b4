/- The claim itself. -/
import Derived.Test.YthafgicndklgfaaGreatDoorRows
import Derived.Test.YthafgicndklgfaaGreatDoorCards
import Derived.Test.YthafgicndklgfaaGreatDoorTie
import Derived.Test.YthafgicndklgfaaGreatDoorQz01
import Derived.Test.YthafgicndklgfaaGreatDoorQz02
import Derived.Test.YthafgicndklgfaaGreatDoorQz03
import Derived.Test.YthafgicndklgfaaGreatDoorQz04
import Derived.Test.YthafgicndklgfaaGreatDoorQz05
import Derived.Test.YthafgicndklgfaaGreatDoorQz06
import Derived.Test.YthafgicndklgfaaGreatDoorQz07
import Derived.Test.YthafgicndklgfaaGreatDoorQz08
import Derived.Test.YthafgicndklgfaaGreatDoorQz09
import Derived.Test.YthafgicndklgfaaGreatDoorQz10
import Derived.Test.YthafgicndklgfaaGreatDoorQz11
import Derived.Test.YthafgicndklgfaaGreatDoorQz12
import Derived.Test.YthafgicndklgfaaGreatDoorQz13
import Derived.Test.YthafgicndklgfaaGreatDoorQz14
import Derived.Test.YthafgicndklgfaaGreatDoorQz15
import Derived.Test.YthafgicndklgfaaGreatDoorQz18
import Derived.Test.YthafgicndklgfaaGreatDoorQz20
import Derived.Test.YthafgicndklgfaaGreatDoorQz23
import Derived.Test.YthafgicndklgfaaGreatDoorQz24
import Derived.Test.YthafgicndklgfaaGreatDoorQz25
namespace Go.Proofs.YthafgicndklgfaaGreatDoor
open Go.ChangeShapes Go.WideShapes Go.ChangeAt Go.WideMaps Go.WideElems Go.RowKit
set_option linter.unusedVariables false
set_option maxRecDepth 100000
set_option maxHeartbeats 32000000

def certStopsLaid : List (String × DataW Unit) := [("portcullis/portcullisref1.k512", Rows.laid_portcullis_portcullisref1_k512), ("portcullis/portcullisref3.order", Rows.laid_portcullis_portcullisref3_order), ("portcullis/portcullisref3.d", Rows.laid_portcullis_portcullisref3_d), ("portcullis/portcullisref3.baseX", Rows.laid_portcullis_portcullisref3_baseX), ("portcullis/portcullisref3.baseY", Rows.laid_portcullis_portcullisref3_baseY), ("portcullis/scalar.tail", Rows.laid_portcullis_scalar_tail), ("portcullis/shb.roots", Rows.laid_portcullis_shb_roots), ("portcullis/curve.d", Rows.laid_portcullis_curve_d)]
theorem certStops_door (os : Os) (args : Array Value) : laidMetH Tryz.prog certStopsLaid ((World.doorLaid Tryz.prog 400 os).forCall (fun _ _ => 0) ⟨#[], args, []⟩).memory :=
  laidMetH_of_parts3 (fuel := 8) (laidMet_of_run' 8 (by kernel_rfl) (by kernel_rfl)) (by kernel_rfl) (by kernel_rfl)
def certStopsGlob : World → Prop := fun W => CMG W ∧ GS W
theorem certStops_glob (W : World) (h : laidMetH Tryz.prog certStopsLaid W) : certStopsGlob W := ⟨⟨globR_ofQ (by kernel_rfl) h (by simp [certStopsLaid]), globT_of (by kernel_rfl) h (by simp [certStopsLaid]), globC_of (by kernel_rfl) h (by simp [certStopsLaid])⟩, ⟨globK_ofQ (by kernel_rfl) h (by simp [certStopsLaid]), globO_of (by kernel_rfl) h (by simp [certStopsLaid]), globD_of (by kernel_rfl) h (by simp [certStopsLaid]), globX_of (by kernel_rfl) h (by simp [certStopsLaid]), globY_of (by kernel_rfl) h (by simp [certStopsLaid])⟩⟩

theorem certStops_walk {H : Type} (enc : TypeId × Value → H) : LawWalkG certStopsGlob enc Tryz.prog 5 Tryz.f5.params.toList := by
  exact certStops_opened crtSaid enc

theorem certStops_lifted (os : Os) (started : os.Started) (H : Type) (enc : TypeId × Value → H) :
    ReturnsInHanded {} Tryz.checked os 5 .any (fun w args => (Rows.certStopsSpec.pre enc Tryz.prog Tryz.f5 [] false w args ∧ laidMetH Tryz.prog certStopsLaid w) ∧ sizedMet enc Tryz.prog Tryz.f5 (OpenSpec.ofChange Rows.certStopsSpec) false w args)
      (Rows.certStopsSpec.post enc Tryz.prog Tryz.f5 false true false false) :=
  law_lift_tied (G := certStopsGlob) (C := Tryz.checked) (s := Rows.certStopsSpec) certStopsLaid law_own law_laid started (by kernel_rfl) Tryz.func5 rfl (by kernel_rfl) (by kernel_rfl) Tryz.underlying4
    (fun ds h => by
      match ds, h with
      | [_, _], _ => exact ⟨rfl, rfl, rfl⟩)
    (ChangeSpec.witness_shaped (enc := enc) (C := Tryz.checked) (os := os) (X := fun w _ => laidMetH Tryz.prog certStopsLaid w) false (World.doorLaid Tryz.prog 400 os) #[.agg #[.int .u8 0, .int .u8 0, .int .u8 0, .int .u8 0, .int .u8 0, .int .u8 0, .int .u8 0, .int .u8 0, .int .u8 0, .int .u8 0, .int .u8 0, .int .u8 0, .int .u8 0, .int .u8 0, .int .u8 0, .int .u8 0, .int .u8 0, .int .u8 0, .int .u8 0, .int .u8 0, .int .u8 0, .int .u8 0, .int .u8 0, .int .u8 0, .int .u8 0, .int .u8 0, .int .u8 0, .int .u8 0, .int .u8 0, .int .u8 0, .int .u8 0, .int .u8 0], .int .i64 0] 8 rfl (World.shaped_of_RefB (by kernel_rfl) (by kernel_rfl)) (by kernel_rfl) (by kernel_rfl) (by kernel_rfl) (certStops_door os _))
    certStops_glob (certStops_walk enc)

theorem certStops_holds : Rows.CertStopsSaid :=
  OpenClaim.holds_of_wide 5 Tryz.f5 rfl rfl rfl rfl rfl rfl rfl ⟨rfl, rfl, rfl, rfl, rfl⟩ rfl rfl rfl rfl rfl (by kernel_rfl) Tryz.func5 (by kernel_rfl)
    (of_decide_eq_true (by kernel_rfl)) (by unfold Func.isWrapper; first | (rw [if_pos (by decide +kernel)]; kernel_rfl) | (rw [if_neg (by decide +kernel)]; exact ⟨rfl, rfl⟩))
    (fun os started H enc _ => certStops_lifted os started H enc)

theorem certStops_card : Rows.CertStopsCardSaid :=
  Claim7.holds_tied_plain_at .later [] [.data, .data, .data, .data, .data, .data, .data, .data] true (true, "ec1e88290f978cd35b2c3442f66c71d82fd65dfe27459aed825c268c7944432c") false
    certStops_holds (fun _ h => by cases h) (by kernel_rfl) (fun _ h => by cases h) certStops_row_tie rfl ⟨rfl, rfl⟩ (by kernel_rfl) rfl
    (fun f fn hf hfn => by
      obtain rfl : f = 5 := Option.some.inj ((show Tryz.prog.funcNamed "portcullis/portcullislaw16.CertStops" = some 5 by kernel_rfl).symm.trans hf) |>.symm
      obtain rfl : fn = Tryz.f5 := (Option.some.inj (Tryz.func5.symm.trans hfn)).symm
      exact ⟨by kernel_rfl, fun j t ht => by
        rw [Tryz.params5] at ht
        have hm : t ∈ [23, 3] := by simpa using Array.mem_of_getElem? ht
        have hall : ([23, 3].all fun u => !Tryz.prog.wantsStandIn u) = true := by kernel_rfl
        exact (show Tryz.prog.wantsStandIn t = false by simpa using List.all_eq_true.1 hall t hm)⟩)
    (by kernel_rfl)

end Go.Proofs.YthafgicndklgfaaGreatDoor
