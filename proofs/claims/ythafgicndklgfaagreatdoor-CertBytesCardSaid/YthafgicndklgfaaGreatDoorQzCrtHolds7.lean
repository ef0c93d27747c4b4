/- The claim itself. -/
import Derived.Test.YthafgicndklgfaaGreatDoorRows
import Derived.Test.YthafgicndklgfaaGreatDoorCards
import Derived.Test.YthafgicndklgfaaGreatDoorTie
import Derived.Test.YthafgicndklgfaaGreatDoorQz01
import Derived.Test.YthafgicndklgfaaGreatDoorQz02
import Derived.Test.YthafgicndklgfaaGreatDoorQz03
import Derived.Test.YthafgicndklgfaaGreatDoorQz04
import Derived.Test.YthafgicndklgfaaGreatDoorQz05
import Derived.Test.YthafgicndklgfaaGreatDoorQz06
import Derived.Test.YthafgicndklgfaaGreatDoorQz07
import Derived.Test.YthafgicndklgfaaGreatDoorQz08
import Derived.Test.YthafgicndklgfaaGreatDoorQz09
import Derived.Test.YthafgicndklgfaaGreatDoorQz10
import Derived.Test.YthafgicndklgfaaGreatDoorQz11
import Derived.Test.YthafgicndklgfaaGreatDoorQz12
import Derived.Test.YthafgicndklgfaaGreatDoorQz13
import Derived.Test.YthafgicndklgfaaGreatDoorQz14
import Derived.Test.YthafgicndklgfaaGreatDoorQz15
import Derived.Test.YthafgicndklgfaaGreatDoorQz16
import Derived.Test.YthafgicndklgfaaGreatDoorQz17
import Derived.Test.YthafgicndklgfaaGreatDoorQz18
import Derived.Test.YthafgicndklgfaaGreatDoorQz22
namespace Go.Proofs.YthafgicndklgfaaGreatDoor
open Go.ChangeShapes Go.WideShapes Go.ChangeAt Go.WideMaps Go.WideElems Go.RowKit
set_option linter.unusedVariables false
set_option maxRecDepth 100000
set_option maxHeartbeats 32000000

def certBytesLaid : List (String × DataW Unit) := [("portcullis/portcullisref1.k512", Rows.laid_portcullis_portcullisref1_k512), ("portcullis/portcullisref3.d", Rows.laid_portcullis_portcullisref3_d), ("portcullis/portcullisref3.baseX", Rows.laid_portcullis_portcullisref3_baseX), ("portcullis/portcullisref3.baseY", Rows.laid_portcullis_portcullisref3_baseY), ("portcullis/scalar.tail", Rows.laid_portcullis_scalar_tail), ("portcullis/shb.roots", Rows.laid_portcullis_shb_roots), ("portcullis/curve.d", Rows.laid_portcullis_curve_d)]
theorem certBytes_door (os : Os) (args : Array Value) : laidMetH Tryz.prog certBytesLaid ((World.doorLaid Tryz.prog 400 os).forCall (fun _ _ => 0) ⟨#[], args, []⟩).memory :=
  laidMetH_of_parts3 (fuel := 8) (laidMet_of_run' 8 (by kernel_rfl) (by kernel_rfl)) (by kernel_rfl) (by kernel_rfl)
def certBytesGlob : World → Prop := fun W => CMG W ∧ GP W
theorem certBytes_glob (W : World) (h : laidMetH Tryz.prog certBytesLaid W) : certBytesGlob W := ⟨⟨globR_ofQ (by kernel_rfl) h (by simp [certBytesLaid]), globT_of (by kernel_rfl) h (by simp [certBytesLaid]), globC_of (by kernel_rfl) h (by simp [certBytesLaid])⟩, ⟨globK_ofQ (by kernel_rfl) h (by simp [certBytesLaid]), globD_of (by kernel_rfl) h (by simp [certBytesLaid]), globX_of (by kernel_rfl) h (by simp [certBytesLaid]), globY_of (by kernel_rfl) h (by simp [certBytesLaid])⟩⟩

theorem certBytes_walk {H : Type} (enc : TypeId × Value → H) : LawWalkG certBytesGlob enc Tryz.prog 9 Tryz.f9.params.toList := by
  exact certBytes_opened crtSaid enc

theorem certBytes_lifted (os : Os) (started : os.Started) (H : Type) (enc : TypeId × Value → H) :
    ReturnsInHanded {} Tryz.checked os 9 .any (fun w args => (Rows.certBytesSpec.pre enc Tryz.prog Tryz.f9 [] false w args ∧ laidMetH Tryz.prog certBytesLaid w) ∧ sizedMet enc Tryz.prog Tryz.f9 (OpenSpec.ofChange Rows.certBytesSpec) false w args)
      (Rows.certBytesSpec.post enc Tryz.prog Tryz.f9 false true false false) :=
  law_lift_tied (G := certBytesGlob) (C := Tryz.checked) (s := Rows.certBytesSpec) certBytesLaid law_own law_laid started (by kernel_rfl) Tryz.func9 rfl (by kernel_rfl) (by kernel_rfl) Tryz.underlying4
    (fun ds h => by
      match ds, h with
      | [_, _, _, _], _ => exact ⟨rfl, rfl, rfl⟩)
    (ChangeSpec.witness_shaped (enc := enc) (C := Tryz.checked) (os := os) (X := fun w _ => laidMetH Tryz.prog certBytesLaid w) false (World.doorLaid Tryz.prog 400 os) #[.agg #[.int .i64 0, .int .u8 0, .int .u8 0, .int .u8 0, .int .u8 0, .int .u8 0, .int .u8 0, .int .u8 0, .int .u8 0, .int .u8 0, .int .u8 0, .int .u8 0, .int .u8 0, .int .u8 0, .int .u8 0, .int .u8 0, .int .u8 0, .int .u8 0, .int .u8 0, .int .u8 0, .int .u8 0, .int .u8 0, .int .u8 0, .int .u8 0, .int .u8 0, .int .u8 0, .int .u8 0, .int .u8 0, .int .u8 0, .int .u8 0, .int .u8 0, .int .u8 0, .int .u8 0, .int .u8 0, .int .u8 0, .int .u8 0, .int .u8 0, .int .u8 0, .int .u8 0, .int .u8 0, .int .u8 0, .int .u8 0, .int .u8 0, .int .u8 0, .int .u8 0, .int .u8 0, .int .u8 0, .int .u8 0, .int .u8 0, .int .u8 0, .int .u8 0, .int .u8 0, .int .u8 0, .int .u8 0, .int .u8 0, .int .u8 0, .int .u8 0, .int .u8 0, .int .u8 0, .int .u8 0, .int .u8 0, .int .u8 0, .int .u8 0, .int .u8 0, .int .u8 0], .int .i64 0, .slice none 0 0, .int .i64 0] 8 rfl (World.shaped_of_RefB (by kernel_rfl) (by kernel_rfl)) (by kernel_rfl) (by kernel_rfl) (by kernel_rfl) (certBytes_door os _))
    certBytes_glob (certBytes_walk enc)

theorem certBytes_holds : Rows.CertBytesSaid :=
  OpenClaim.holds_of_wide 9 Tryz.f9 rfl rfl rfl rfl rfl rfl rfl ⟨rfl, rfl, rfl, rfl, rfl⟩ rfl rfl rfl rfl rfl (by kernel_rfl) Tryz.func9 (by kernel_rfl)
    (of_decide_eq_true (by kernel_rfl)) (by unfold Func.isWrapper; first | (rw [if_pos (by decide +kernel)]; kernel_rfl) | (rw [if_neg (by decide +kernel)]; exact ⟨rfl, rfl⟩))
    (fun os started H enc _ => certBytes_lifted os started H enc)

theorem certBytes_card : Rows.CertBytesCardSaid :=
  Claim7.holds_tied_plain_at .later [] [.data, .data, .data, .data, .data, .data, .data] true (true, "ec1e88290f978cd35b2c3442f66c71d82fd65dfe27459aed825c268c7944432c") false
    certBytes_holds (fun _ h => by cases h) (by kernel_rfl) (fun _ h => by cases h) certBytes_row_tie rfl ⟨rfl, rfl⟩ (by kernel_rfl) rfl
    (fun f fn hf hfn => by
      obtain rfl : f = 9 := Option.some.inj ((show Tryz.prog.funcNamed "portcullis/portcullislaw16.CertBytes" = some 9 by kernel_rfl).symm.trans hf) |>.symm
      obtain rfl : fn = Tryz.f9 := (Option.some.inj (Tryz.func9.symm.trans hfn)).symm
      exact ⟨by kernel_rfl, fun j t ht => by
        rw [Tryz.params9] at ht
        have hm : t ∈ [39, 3, 46, 3] := by simpa using Array.mem_of_getElem? ht
        have hall : ([39, 3, 46, 3].all fun u => !Tryz.prog.wantsStandIn u) = true := by kernel_rfl
        exact (show Tryz.prog.wantsStandIn t = false by simpa using List.all_eq_true.1 hall t hm)⟩)
    (by kernel_rfl)

end Go.Proofs.YthafgicndklgfaaGreatDoor
