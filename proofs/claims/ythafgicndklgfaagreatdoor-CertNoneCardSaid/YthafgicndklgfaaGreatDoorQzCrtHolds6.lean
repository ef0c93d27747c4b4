/- The claim itself. -/
import Derived.Test.YthafgicndklgfaaGreatDoorRows
import Derived.Test.YthafgicndklgfaaGreatDoorCards
import Derived.Test.YthafgicndklgfaaGreatDoorTie
import Derived.Test.YthafgicndklgfaaGreatDoorQz01
import Derived.Test.YthafgicndklgfaaGreatDoorQz02
import Derived.Test.YthafgicndklgfaaGreatDoorQz03
import Derived.Test.YthafgicndklgfaaGreatDoorQz04
import Derived.Test.YthafgicndklgfaaGreatDoorQz05
import Derived.Test.YthafgicndklgfaaGreatDoorQz06
import Derived.Test.YthafgicndklgfaaGreatDoorQz07
import Derived.Test.YthafgicndklgfaaGreatDoorQz08
import Derived.Test.YthafgicndklgfaaGreatDoorQz09
import Derived.Test.YthafgicndklgfaaGreatDoorQz10
import Derived.Test.YthafgicndklgfaaGreatDoorQz11
import Derived.Test.YthafgicndklgfaaGreatDoorQz12
import Derived.Test.YthafgicndklgfaaGreatDoorQz13
import Derived.Test.YthafgicndklgfaaGreatDoorQz14
import Derived.Test.YthafgicndklgfaaGreatDoorQz16
import Derived.Test.YthafgicndklgfaaGreatDoorQz19
import Derived.Test.YthafgicndklgfaaGreatDoorQz26
import Derived.Test.YthafgicndklgfaaGreatDoorQz27
import Derived.Test.YthafgicndklgfaaGreatDoorQz28
namespace Go.Proofs.YthafgicndklgfaaGreatDoor
open Go.ChangeShapes Go.WideShapes Go.ChangeAt Go.WideMaps Go.WideElems Go.RowKit
set_option linter.unusedVariables false
set_option maxRecDepth 100000
set_option maxHeartbeats 32000000

def certNoneLaid : List (String × DataW Unit) := [("portcullis/portcullisref1.k512", Rows.laid_portcullis_portcullisref1_k512), ("portcullis/portcullisref3.rootOfMinusOne", Rows.laid_portcullis_portcullisref3_rootOfMinusOne), ("portcullis/portcullisref3.d", Rows.laid_portcullis_portcullisref3_d), ("portcullis/portcullisref3.baseX", Rows.laid_portcullis_portcullisref3_baseX), ("portcullis/portcullisref3.baseY", Rows.laid_portcullis_portcullisref3_baseY), ("portcullis/scalar.tail", Rows.laid_portcullis_scalar_tail), ("portcullis/shb.roots", Rows.laid_portcullis_shb_roots), ("portcullis/curve.d", Rows.laid_portcullis_curve_d)]
theorem certNone_door (os : Os) (args : Array Value) : laidMetH Tryz.prog certNoneLaid ((World.doorLaid Tryz.prog 400 os).forCall (fun _ _ => 0) ⟨#[], args, []⟩).memory :=
  laidMetH_of_parts3 (fuel := 8) (laidMet_of_run' 8 (by kernel_rfl) (by kernel_rfl)) (by kernel_rfl) (by kernel_rfl)
def certNoneGlob : World → Prop := fun W => CMG W ∧ GN W
theorem certNone_glob (W : World) (h : laidMetH Tryz.prog certNoneLaid W) : certNoneGlob W := ⟨⟨globR_ofQ (by kernel_rfl) h (by simp [certNoneLaid]), globT_of (by kernel_rfl) h (by simp [certNoneLaid]), globC_of (by kernel_rfl) h (by simp [certNoneLaid])⟩, ⟨⟨globK_ofQ (by kernel_rfl) h (by simp [certNoneLaid]), globD_of (by kernel_rfl) h (by simp [certNoneLaid]), globX_of (by kernel_rfl) h (by simp [certNoneLaid]), globY_of (by kernel_rfl) h (by simp [certNoneLaid])⟩, globL_of (by kernel_rfl) h (by simp [certNoneLaid])⟩⟩

theorem certNone_walk {H : Type} (enc : TypeId × Value → H) : LawWalkG certNoneGlob enc Tryz.prog 8 Tryz.f8.params.toList := by
  exact certNone_opened crtSaid enc

theorem certNone_lifted (os : Os) (started : os.Started) (H : Type) (enc : TypeId × Value → H) :
    ReturnsInHanded {} Tryz.checked os 8 .any (fun w args => (Rows.certNoneSpec.pre enc Tryz.prog Tryz.f8 [] false w args ∧ laidMetH Tryz.prog certNoneLaid w) ∧ sizedMet enc Tryz.prog Tryz.f8 (OpenSpec.ofChange Rows.certNoneSpec) false w args)
      (Rows.certNoneSpec.post enc Tryz.prog Tryz.f8 false true false false) :=
  law_lift_tied (G := certNoneGlob) (C := Tryz.checked) (s := Rows.certNoneSpec) certNoneLaid law_own law_laid started (by kernel_rfl) Tryz.func8 rfl (by kernel_rfl) (by kernel_rfl) Tryz.underlying4
    (fun ds h => by
      match ds, h with
      | [_], _ => exact ⟨rfl, rfl, rfl⟩)
    (ChangeSpec.witness_shaped (enc := enc) (C := Tryz.checked) (os := os) (X := fun w _ => laidMetH Tryz.prog certNoneLaid w) false (World.doorLaid Tryz.prog 400 os) #[.int .i64 0] 8 rfl (World.shaped_of_RefB (by kernel_rfl) (by kernel_rfl)) (by kernel_rfl) (by kernel_rfl) (by kernel_rfl) (certNone_door os _))
    certNone_glob (certNone_walk enc)

theorem certNone_holds : Rows.CertNoneSaid :=
  OpenClaim.holds_of_wide 8 Tryz.f8 rfl rfl rfl rfl rfl rfl rfl ⟨rfl, rfl, rfl, rfl, rfl⟩ rfl rfl rfl rfl rfl (by kernel_rfl) Tryz.func8 (by kernel_rfl)
    (of_decide_eq_true (by kernel_rfl)) (by unfold Func.isWrapper; first | (rw [if_pos (by decide +kernel)]; kernel_rfl) | (rw [if_neg (by decide +kernel)]; exact ⟨rfl, rfl⟩))
    (fun os started H enc _ => certNone_lifted os started H enc)

theorem certNone_card : Rows.CertNoneCardSaid :=
  Claim7.holds_tied_plain_at .later [] [.data, .data, .data, .data, .data, .data, .data, .data] true (true, "ec1e88290f978cd35b2c3442f66c71d82fd65dfe27459aed825c268c7944432c") false
    certNone_holds (fun _ h => by cases h) (by kernel_rfl) (fun _ h => by cases h) certNone_row_tie rfl ⟨rfl, rfl⟩ (by kernel_rfl) rfl
    (fun f fn hf hfn => by
      obtain rfl : f = 8 := Option.some.inj ((show Tryz.prog.funcNamed "portcullis/portcullislaw16.CertNone" = some 8 by kernel_rfl).symm.trans hf) |>.symm
      obtain rfl : fn = Tryz.f8 := (Option.some.inj (Tryz.func8.symm.trans hfn)).symm
      exact ⟨by kernel_rfl, fun j t ht => by
        rw [Tryz.params8] at ht
        have hm : t ∈ [3] := by simpa using Array.mem_of_getElem? ht
        have hall : ([3].all fun u => !Tryz.prog.wantsStandIn u) = true := by kernel_rfl
        exact (show Tryz.prog.wantsStandIn t = false by simpa using List.all_eq_true.1 hall t hm)⟩)
    (by kernel_rfl)

end Go.Proofs.YthafgicndklgfaaGreatDoor
