/- The claim itself. -/
import Derived.Test.YthafgicndklgfaaGreatDoorRows
import Derived.Test.YthafgicndklgfaaGreatDoorCards
import Derived.Test.YthafgicndklgfaaGreatDoorTie
import Derived.Test.YthafgicndklgfaaGreatDoorQy01
import Derived.Test.YthafgicndklgfaaGreatDoorQy02
import Derived.Test.YthafgicndklgfaaGreatDoorQy03
import Derived.Test.YthafgicndklgfaaGreatDoorQy04
import Derived.Test.YthafgicndklgfaaGreatDoorQy05
import Derived.Test.YthafgicndklgfaaGreatDoorQy06
import Derived.Test.YthafgicndklgfaaGreatDoorQy07
import Derived.Test.YthafgicndklgfaaGreatDoorQy08
import Derived.Test.YthafgicndklgfaaGreatDoorQy09
import Derived.Test.YthafgicndklgfaaGreatDoorQy10
import Derived.Test.YthafgicndklgfaaGreatDoorQy11
import Derived.Test.YthafgicndklgfaaGreatDoorQy12
import Derived.Test.YthafgicndklgfaaGreatDoorQy13
import Derived.Test.YthafgicndklgfaaGreatDoorQy14
import Derived.Test.YthafgicndklgfaaGreatDoorQy15
import Derived.Test.YthafgicndklgfaaGreatDoorQy16
import Derived.Test.YthafgicndklgfaaGreatDoorQy17
import Derived.Test.YthafgicndklgfaaGreatDoorQy18
import Derived.Test.YthafgicndklgfaaGreatDoorQy19
import Derived.Test.YthafgicndklgfaaGreatDoorQy20
import Derived.Test.YthafgicndklgfaaGreatDoorQy21
import Derived.Test.YthafgicndklgfaaGreatDoorQy22
import Derived.Test.YthafgicndklgfaaGreatDoorQy24
namespace Go.Proofs.YthafgicndklgfaaGreatDoor
open Go.ChangeShapes Go.WideShapes Go.ChangeAt Go.WideMaps Go.WideElems Go.RowKit
set_option linter.unusedVariables false
set_option maxRecDepth 100000
set_option maxHeartbeats 32000000

def certTurnedLaid : List (String × DataW Unit) := [("portcullis/portcullisref1.k512", Rows.laid_portcullis_portcullisref1_k512), ("portcullis/portcullisref3.rootOfMinusOne", Rows.laid_portcullis_portcullisref3_rootOfMinusOne), ("portcullis/portcullisref3.order", Rows.laid_portcullis_portcullisref3_order), ("portcullis/portcullisref3.d", Rows.laid_portcullis_portcullisref3_d), ("portcullis/portcullisref3.baseX", Rows.laid_portcullis_portcullisref3_baseX), ("portcullis/portcullisref3.baseY", Rows.laid_portcullis_portcullisref3_baseY), ("portcullis/scalar.tail", Rows.laid_portcullis_scalar_tail), ("portcullis/shb.roots", Rows.laid_portcullis_shb_roots), ("portcullis/curve.d", Rows.laid_portcullis_curve_d)]
theorem certTurned_door (os : Os) (args : Array Value) : laidMetH Tryz.prog certTurnedLaid ((World.doorLaid Tryz.prog 400 os).forCall (fun _ _ => 0) ⟨#[], args, []⟩).memory :=
  laidMetH_of_parts3 (fuel := 8) (laidMet_of_run' 8 (by kernel_rfl) (by kernel_rfl)) (by kernel_rfl) (by kernel_rfl)
def certTurnedGlob : World → Prop := fun W => CMG W ∧ GV W
theorem certTurned_glob (W : World) (h : laidMetH Tryz.prog certTurnedLaid W) : certTurnedGlob W := ⟨⟨globR_ofQ (by kernel_rfl) h (by simp [certTurnedLaid]), globT_of (by kernel_rfl) h (by simp [certTurnedLaid]), globC_of (by kernel_rfl) h (by simp [certTurnedLaid])⟩, ⟨⟨globK_ofQ (by kernel_rfl) h (by simp [certTurnedLaid]), globO_of (by kernel_rfl) h (by simp [certTurnedLaid]), globD_of (by kernel_rfl) h (by simp [certTurnedLaid]), globX_of (by kernel_rfl) h (by simp [certTurnedLaid]), globY_of (by kernel_rfl) h (by simp [certTurnedLaid])⟩, globL_of (by kernel_rfl) h (by simp [certTurnedLaid])⟩⟩

theorem certTurned_walk {H : Type} (enc : TypeId × Value → H) : LawWalkG certTurnedGlob enc Tryz.prog 7 Tryz.f7.params.toList := by
  exact certTurned_opened crtSaid enc

theorem certTurned_lifted (os : Os) (started : os.Started) (H : Type) (enc : TypeId × Value → H) :
    ReturnsInHanded {} Tryz.checked os 7 .any (fun w args => (Rows.certTurnedSpec.pre enc Tryz.prog Tryz.f7 [] false w args ∧ laidMetH Tryz.prog certTurnedLaid w) ∧ sizedMet enc Tryz.prog Tryz.f7 (OpenSpec.ofChange Rows.certTurnedSpec) false w args)
      (Rows.certTurnedSpec.post enc Tryz.prog Tryz.f7 false true false false) :=
  law_lift_tied (G := certTurnedGlob) (C := Tryz.checked) (s := Rows.certTurnedSpec) certTurnedLaid law_own law_laid started (by kernel_rfl) Tryz.func7 rfl (by kernel_rfl) (by kernel_rfl) Tryz.underlying4
    (fun ds h => by
      match ds, h with
      | [_, _, _, _, _], _ => exact ⟨rfl, rfl, rfl⟩)
    (ChangeSpec.witness_shaped (enc := enc) (C := Tryz.checked) (os := os) (X := fun w _ => laidMetH Tryz.prog certTurnedLaid w) false (World.doorLaid Tryz.prog 400 os) #[.agg #[.int .u8 0, .int .u8 0, .int .u8 0, .int .u8 0, .int .u8 0, .int .u8 0, .int .u8 0, .int .u8 0, .int .u8 0, .int .u8 0, .int .u8 0, .int .u8 0, .int .u8 0, .int .u8 0, .int .u8 0, .int .u8 0, .int .u8 0, .int .u8 0, .int .u8 0, .int .u8 0, .int .u8 0, .int .u8 0, .int .u8 0, .int .u8 0, .int .u8 0, .int .u8 0, .int .u8 0, .int .u8 0, .int .u8 0, .int .u8 0, .int .u8 0, .int .u8 0], .int .i64 0, .int .i64 0, .int .i64 0, .int .u8 0] 8 rfl (World.shaped_of_RefB (by kernel_rfl) (by kernel_rfl)) (by kernel_rfl) (by kernel_rfl) (by kernel_rfl) (certTurned_door os _))
    certTurned_glob (certTurned_walk enc)

theorem certTurned_holds : Rows.CertTurnedSaid :=
  OpenClaim.holds_of_wide 7 Tryz.f7 rfl rfl rfl rfl rfl rfl rfl ⟨rfl, rfl, rfl, rfl, rfl⟩ rfl rfl rfl rfl rfl (by kernel_rfl) Tryz.func7 (by kernel_rfl)
    (of_decide_eq_true (by kernel_rfl)) (by unfold Func.isWrapper; first | (rw [if_pos (by decide +kernel)]; kernel_rfl) | (rw [if_neg (by decide +kernel)]; exact ⟨rfl, rfl⟩))
    (fun os started H enc _ => certTurned_lifted os started H enc)

theorem certTurned_card : Rows.CertTurnedCardSaid :=
  Claim7.holds_tied_plain_at .later [] [.data, .data, .data, .data, .data, .data, .data, .data, .data] true (true, "ec1e88290f978cd35b2c3442f66c71d82fd65dfe27459aed825c268c7944432c") false
    certTurned_holds (fun _ h => by cases h) (by kernel_rfl) (fun _ h => by cases h) certTurned_row_tie rfl ⟨rfl, rfl⟩ (by kernel_rfl) rfl
    (fun f fn hf hfn => by
      obtain rfl : f = 7 := Option.some.inj ((show Tryz.prog.funcNamed "portcullis/portcullislaw16.CertTurned" = some 7 by kernel_rfl).symm.trans hf) |>.symm
      obtain rfl : fn = Tryz.f7 := (Option.some.inj (Tryz.func7.symm.trans hfn)).symm
      exact ⟨by kernel_rfl, fun j t ht => by
        rw [Tryz.params7] at ht
        have hm : t ∈ [23, 3, 3, 3, 5] := by simpa using Array.mem_of_getElem? ht
        have hall : ([23, 3, 3, 3, 5].all fun u => !Tryz.prog.wantsStandIn u) = true := by kernel_rfl
        exact (show Tryz.prog.wantsStandIn t = false by simpa using List.all_eq_true.1 hall t hm)⟩)
    (by kernel_rfl)

end Go.Proofs.YthafgicndklgfaaGreatDoor
