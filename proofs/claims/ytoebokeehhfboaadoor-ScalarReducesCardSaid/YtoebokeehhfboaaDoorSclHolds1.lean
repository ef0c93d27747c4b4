/- The statement ScalarReduces holds, and its tied card: every call returns true and leaves its arguments as they were, where the listed variables read as they are listed; no other condition. -/
import Derived.Test.YtoebokeehhfboaaDoorTiedKit
import Derived.Test.YtoebokeehhfboaaDoorFldOpen
import Derived.Test.YtoebokeehhfboaaDoorRows
import Derived.Test.YtoebokeehhfboaaDoorCards
import Derived.Test.YtoebokeehhfboaaDoorTie
import Derived.ProofKit
import Derived.Test.YtoebokeehhfboaaDoorSclGlob
import Derived.Test.YtoebokeehhfboaaDoorSclLawReduces
namespace Go.Proofs.YtoebokeehhfboaaDoor
open Go.ChangeShapes Go.WideShapes Go.ChangeAt Go.WideMaps Go.WideElems Go.RowKit
set_option linter.unusedVariables false

def scalarReducesLaid : List (String × DataW Unit) := [("portcullis/portcullisref3.order", Rows.laid_portcullis_portcullisref3_order), ("portcullis/scalar.tail", Rows.laid_portcullis_scalar_tail)]
theorem scalarReduces_door (os : Os) (args : Array Value) : laidMetH Tryd.prog scalarReducesLaid ((World.doorLaid Tryd.prog 400 os).forCall (fun _ _ => 0) ⟨#[], args, []⟩).memory :=
  laidMetH_of_parts3 (fuel := 8) (laidMet_of_run' 8 (by kernel_rfl) (by kernel_rfl)) (by kernel_rfl) (by kernel_rfl)
def scalarReducesGlob : World → Prop := fun W => GlobT W ∧ GlobO W
theorem scalarReduces_glob (W : World) (h : laidMetH Tryd.prog scalarReducesLaid W) : scalarReducesGlob W := ⟨globT_of (by kernel_rfl) h (by simp [scalarReducesLaid]), globO_of (by kernel_rfl) h (by simp [scalarReducesLaid])⟩

theorem scalarReduces_walk {H : Type} (enc : TypeId × Value → H) : LawWalkG scalarReducesGlob enc Tryd.prog 3 Tryd.f3.params.toList := by
  intro W base args ds ps hval hA hlt hfz hG
  rw [Tryd.params3] at hA hval
  obtain ⟨v0, d0, rfl, rfl, h0⟩ := trodAll_one hA
  obtain ⟨x0, hx0⟩ := open_bytes Tryd.underlying22 Tryd.underlying5 (by kernel_rfl) (hval 0 22 v0 rfl rfl) h0
  exact scalarReduces_any v0 x0 W hx0 hG.1 hG.2

set_option maxRecDepth 100000 in
theorem scalarReduces_lifted (os : Os) (started : os.Started) (H : Type) (enc : TypeId × Value → H) :
    ReturnsInHanded {} Tryd.checked os 3 .any (fun w args => (Rows.scalarReducesSpec.pre enc Tryd.prog Tryd.f3 [] false w args ∧ laidMetH Tryd.prog scalarReducesLaid w) ∧ sizedMet enc Tryd.prog Tryd.f3 (OpenSpec.ofChange Rows.scalarReducesSpec) false w args)
      (Rows.scalarReducesSpec.post enc Tryd.prog Tryd.f3 false true false false) :=
  law_lift_tied (G := scalarReducesGlob) (C := Tryd.checked) (s := Rows.scalarReducesSpec) scalarReducesLaid law_own law_laid started (by kernel_rfl) Tryd.func3 rfl (by kernel_rfl) (by kernel_rfl) Tryd.underlying4
    (fun ds h => by
      match ds, h with
      | [_], _ => exact ⟨rfl, rfl, rfl⟩)
    (ChangeSpec.witness_shaped (enc := enc) (C := Tryd.checked) (os := os) (X := fun w _ => laidMetH Tryd.prog scalarReducesLaid w) false (World.doorLaid Tryd.prog 400 os) #[.slice none 0 0] 8 rfl (World.shaped_of_RefB (by kernel_rfl) (by kernel_rfl)) (by kernel_rfl) (by kernel_rfl) (by kernel_rfl) (scalarReduces_door os _))
    scalarReduces_glob (scalarReduces_walk enc)

theorem scalarReduces_holds : Rows.ScalarReducesSaid :=
  OpenClaim.holds_of_wide 3 Tryd.f3 rfl rfl rfl rfl rfl rfl rfl ⟨rfl, rfl, rfl, rfl, rfl⟩ rfl rfl rfl rfl rfl (by kernel_rfl) Tryd.func3 (by kernel_rfl)
    (of_decide_eq_true (by kernel_rfl)) (by unfold Func.isWrapper; first | (rw [if_pos (by decide +kernel)]; kernel_rfl) | (rw [if_neg (by decide +kernel)]; exact ⟨rfl, rfl⟩))
    (fun os started H enc _ => scalarReduces_lifted os started H enc)

theorem scalarReduces_card : Rows.ScalarReducesCardSaid :=
  Claim7.holds_tied_plain_at .later [] [.data, .data] true (true, "73f3ff61b9124055fa4c9f58c9cf92d1d33fca68a61501fc0a56df298a58c5d1") false
    scalarReduces_holds (fun _ h => by cases h) (by kernel_rfl) (fun _ h => by cases h) scalarReduces_row_tie rfl ⟨rfl, rfl⟩ (by kernel_rfl) rfl
    (fun f fn hf hfn => by
      obtain rfl : f = 3 := Option.some.inj ((show Tryd.prog.funcNamed "portcullis/portcullislaw4.ScalarReduces" = some 3 by kernel_rfl).symm.trans hf) |>.symm
      obtain rfl : fn = Tryd.f3 := (Option.some.inj (Tryd.func3.symm.trans hfn)).symm
      exact ⟨by kernel_rfl, fun j t ht => by
        rw [Tryd.params3] at ht
        have hm : t ∈ [22] := by simpa using Array.mem_of_getElem? ht
        have hall : ([22].all fun u => !Tryd.prog.wantsStandIn u) = true := by kernel_rfl
        exact (show Tryd.prog.wantsStandIn t = false by simpa using List.all_eq_true.1 hall t hm)⟩)
    (by kernel_rfl)

end Go.Proofs.YtoebokeehhfboaaDoor
