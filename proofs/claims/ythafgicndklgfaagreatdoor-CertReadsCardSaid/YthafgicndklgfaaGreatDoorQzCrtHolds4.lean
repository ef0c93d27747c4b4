/- The claim itself. -/
import Derived.Test.YthafgicndklgfaaGreatDoorRows
import Derived.Test.YthafgicndklgfaaGreatDoorCards
import Derived.Test.YthafgicndklgfaaGreatDoorTie
import Derived.Test.YthafgicndklgfaaGreatDoorQz01
import Derived.Test.YthafgicndklgfaaGreatDoorQz02
import Derived.Test.YthafgicndklgfaaGreatDoorQz03
import Derived.Test.YthafgicndklgfaaGreatDoorQz04
import Derived.Test.YthafgicndklgfaaGreatDoorQz05
import Derived.Test.YthafgicndklgfaaGreatDoorQz06
import Derived.Test.YthafgicndklgfaaGreatDoorQz07
import Derived.Test.YthafgicndklgfaaGreatDoorQz08
import Derived.Test.YthafgicndklgfaaGreatDoorQz09
import Derived.Test.YthafgicndklgfaaGreatDoorQz10
import Derived.Test.YthafgicndklgfaaGreatDoorQz11
import Derived.Test.YthafgicndklgfaaGreatDoorQz12
import Derived.Test.YthafgicndklgfaaGreatDoorQz13
import Derived.Test.YthafgicndklgfaaGreatDoorQz14
import Derived.Test.YthafgicndklgfaaGreatDoorQz15
import Derived.Test.YthafgicndklgfaaGreatDoorQz16
import Derived.Test.YthafgicndklgfaaGreatDoorQz17
import Derived.Test.YthafgicndklgfaaGreatDoorQz19
import Derived.Test.YthafgicndklgfaaGreatDoorQz20
import Derived.Test.YthafgicndklgfaaGreatDoorQz21
namespace Go.Proofs.YthafgicndklgfaaGreatDoor
open Go.ChangeShapes Go.WideShapes Go.ChangeAt Go.WideMaps Go.WideElems Go.RowKit
set_option linter.unusedVariables false
set_option maxRecDepth 100000
set_option maxHeartbeats 32000000

def certReadsLaid : List (String × DataW Unit) := [("portcullis/portcullisref1.k512", Rows.laid_portcullis_portcullisref1_k512), ("portcullis/portcullisref3.d", Rows.laid_portcullis_portcullisref3_d), ("portcullis/portcullisref3.baseX", Rows.laid_portcullis_portcullisref3_baseX), ("portcullis/portcullisref3.baseY", Rows.laid_portcullis_portcullisref3_baseY), ("portcullis/scalar.tail", Rows.laid_portcullis_scalar_tail), ("portcullis/shb.roots", Rows.laid_portcullis_shb_roots), ("portcullis/curve.d", Rows.laid_portcullis_curve_d)]
theorem certReads_door (os : Os) (args : Array Value) : laidMetH Tryz.prog certReadsLaid ((World.doorLaid Tryz.prog 400 os).forCall (fun _ _ => 0) ⟨#[], args, []⟩).memory :=
  laidMetH_of_parts3 (fuel := 8) (laidMet_of_run' 8 (by kernel_rfl) (by kernel_rfl)) (by kernel_rfl) (by kernel_rfl)
def certReadsGlob : World → Prop := fun W => CMG W ∧ GP W
theorem certReads_glob (W : World) (h : laidMetH Tryz.prog certReadsLaid W) : certReadsGlob W := ⟨⟨globR_ofQ (by kernel_rfl) h (by simp [certReadsLaid]), globT_of (by kernel_rfl) h (by simp [certReadsLaid]), globC_of (by kernel_rfl) h (by simp [certReadsLaid])⟩, ⟨globK_ofQ (by kernel_rfl) h (by simp [certReadsLaid]), globD_of (by kernel_rfl) h (by simp [certReadsLaid]), globX_of (by kernel_rfl) h (by simp [certReadsLaid]), globY_of (by kernel_rfl) h (by simp [certReadsLaid])⟩⟩

theorem certReads_walk {H : Type} (enc : TypeId × Value → H) : LawWalkG certReadsGlob enc Tryz.prog 6 Tryz.f6.params.toList := by
  exact certReads_opened crtSaid enc

theorem certReads_lifted (os : Os) (started : os.Started) (H : Type) (enc : TypeId × Value → H) :
    ReturnsInHanded {} Tryz.checked os 6 .any (fun w args => (Rows.certReadsSpec.pre enc Tryz.prog Tryz.f6 [] false w args ∧ laidMetH Tryz.prog certReadsLaid w) ∧ sizedMet enc Tryz.prog Tryz.f6 (OpenSpec.ofChange Rows.certReadsSpec) false w args)
      (Rows.certReadsSpec.post enc Tryz.prog Tryz.f6 false true false false) :=
  law_lift_tied (G := certReadsGlob) (C := Tryz.checked) (s := Rows.certReadsSpec) certReadsLaid law_own law_laid started (by kernel_rfl) Tryz.func6 rfl (by kernel_rfl) (by kernel_rfl) Tryz.underlying4
    (fun ds h => by
      match ds, h with
      | [_, _], _ => exact ⟨rfl, rfl, rfl⟩)
    (ChangeSpec.witness_shaped (enc := enc) (C := Tryz.checked) (os := os) (X := fun w _ => laidMetH Tryz.prog certReadsLaid w) false (World.doorLaid Tryz.prog 400 os) #[.slice none 0 0, .agg #[.int .i64 0, .int .u8 0, .int .u8 0, .int .u8 0, .int .u8 0, .int .u8 0, .int .u8 0, .int .u8 0, .int .u8 0, .int .u8 0, .int .u8 0, .int .u8 0, .int .u8 0, .int .u8 0, .int .u8 0, .int .u8 0, .int .u8 0, .int .u8 0, .int .u8 0, .int .u8 0, .int .u8 0, .int .u8 0, .int .u8 0, .int .u8 0, .int .u8 0, .int .u8 0, .int .u8 0, .int .u8 0, .int .u8 0, .int .u8 0, .int .u8 0, .int .u8 0, .int .u8 0, .int .u8 0, .int .u8 0, .int .u8 0, .int .u8 0, .int .u8 0, .int .u8 0, .int .u8 0, .int .u8 0, .int .u8 0, .int .u8 0, .int .u8 0, .int .u8 0, .int .u8 0, .int .u8 0, .int .u8 0, .int .u8 0, .int .u8 0, .int .u8 0, .int .u8 0, .int .u8 0, .int .u8 0, .int .u8 0, .int .u8 0, .int .u8 0, .int .u8 0, .int .u8 0, .int .u8 0, .int .u8 0, .int .u8 0, .int .u8 0, .int .u8 0, .int .u8 0]] 8 rfl (World.shaped_of_RefB (by kernel_rfl) (by kernel_rfl)) (by kernel_rfl) (by kernel_rfl) (by kernel_rfl) (certReads_door os _))
    certReads_glob (certReads_walk enc)

theorem certReads_holds : Rows.CertReadsSaid :=
  OpenClaim.holds_of_wide 6 Tryz.f6 rfl rfl rfl rfl rfl rfl rfl ⟨rfl, rfl, rfl, rfl, rfl⟩ rfl rfl rfl rfl rfl (by kernel_rfl) Tryz.func6 (by kernel_rfl)
    (of_decide_eq_true (by kernel_rfl)) (by unfold Func.isWrapper; first | (rw [if_pos (by decide +kernel)]; kernel_rfl) | (rw [if_neg (by decide +kernel)]; exact ⟨rfl, rfl⟩))
    (fun os started H enc _ => certReads_lifted os started H enc)

theorem certReads_card : Rows.CertReadsCardSaid :=
  Claim7.holds_tied_plain_at .later [] [.data, .data, .data, .data, .data, .data, .data] true (true, "ec1e88290f978cd35b2c3442f66c71d82fd65dfe27459aed825c268c7944432c") false
    certReads_holds (fun _ h => by cases h) (by kernel_rfl) (fun _ h => by cases h) certReads_row_tie rfl ⟨rfl, rfl⟩ (by kernel_rfl) rfl
    (fun f fn hf hfn => by
      obtain rfl : f = 6 := Option.some.inj ((show Tryz.prog.funcNamed "portcullis/portcullislaw16.CertReads" = some 6 by kernel_rfl).symm.trans hf) |>.symm
      obtain rfl : fn = Tryz.f6 := (Option.some.inj (Tryz.func6.symm.trans hfn)).symm
      exact ⟨by kernel_rfl, fun j t ht => by
        rw [Tryz.params6] at ht
        have hm : t ∈ [46, 39] := by simpa using Array.mem_of_getElem? ht
        have hall : ([46, 39].all fun u => !Tryz.prog.wantsStandIn u) = true := by kernel_rfl
        exact (show Tryz.prog.wantsStandIn t = false by simpa using List.all_eq_true.1 hall t hm)⟩)
    (by kernel_rfl)

end Go.Proofs.YthafgicndklgfaaGreatDoor
