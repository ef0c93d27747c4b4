/- The statement ScalarRules holds, and its tied card: every call returns true and leaves its arguments as they were, where the listed variables read as they are listed; no other condition. -/
import Derived.Test.YtoebokeehhfboaaDoorTiedKit
import Derived.Test.YtoebokeehhfboaaDoorFldOpen
import Derived.Test.YtoebokeehhfboaaDoorRows
import Derived.Test.YtoebokeehhfboaaDoorCards
import Derived.Test.YtoebokeehhfboaaDoorTie
import Derived.ProofKit
import Derived.Test.YtoebokeehhfboaaDoorSclGlob
import Derived.Test.YtoebokeehhfboaaDoorSclLawRules
namespace Go.Proofs.YtoebokeehhfboaaDoor
open Go.ChangeShapes Go.WideShapes Go.ChangeAt Go.WideMaps Go.WideElems Go.RowKit
set_option linter.unusedVariables false

def scalarRulesLaid : List (String × DataW Unit) := [("portcullis/scalar.tail", Rows.laid_portcullis_scalar_tail)]
theorem scalarRules_door (os : Os) (args : Array Value) : laidMetH Tryd.prog scalarRulesLaid ((World.doorLaid Tryd.prog 400 os).forCall (fun _ _ => 0) ⟨#[], args, []⟩).memory :=
  laidMetH_of_parts3 (fuel := 8) (laidMet_of_run' 8 (by kernel_rfl) (by kernel_rfl)) (by kernel_rfl) (by kernel_rfl)
def scalarRulesGlob : World → Prop := fun W => GlobT W
theorem scalarRules_glob (W : World) (h : laidMetH Tryd.prog scalarRulesLaid W) : scalarRulesGlob W := globT_of (by kernel_rfl) h (by simp [scalarRulesLaid])

theorem scalarRules_walk {H : Type} (enc : TypeId × Value → H) : LawWalkG scalarRulesGlob enc Tryd.prog 5 Tryd.f5.params.toList := by
  intro W base args ds ps hval hA hlt hfz hG
  rw [Tryd.params5] at hA hval
  obtain ⟨v0, v1, v2, d0, d1, d2, p0, p1, p2, rfl, rfl, rfl, h0, h1, h2⟩ := trodAll_three hA
  obtain ⟨x0, rfl, hx0⟩ := open_num Tryd.underlying25 Tryd.underlying5 (by kernel_rfl) (by kernel_rfl) (hval 0 25 v0 rfl rfl) h0
  obtain ⟨x1, rfl, hx1⟩ := open_num Tryd.underlying25 Tryd.underlying5 (by kernel_rfl) (by kernel_rfl) (hval 1 25 v1 rfl rfl) h1
  obtain ⟨x2, rfl, hx2⟩ := open_num Tryd.underlying25 Tryd.underlying5 (by kernel_rfl) (by kernel_rfl) (hval 2 25 v2 rfl rfl) h2
  exact scalarRules_any x0 x1 x2 W hx0 hx1 hx2 hG

set_option maxRecDepth 100000 in
theorem scalarRules_lifted (os : Os) (started : os.Started) (H : Type) (enc : TypeId × Value → H) :
    ReturnsInHanded {} Tryd.checked os 5 .any (fun w args => (Rows.scalarRulesSpec.pre enc Tryd.prog Tryd.f5 [] false w args ∧ laidMetH Tryd.prog scalarRulesLaid w) ∧ sizedMet enc Tryd.prog Tryd.f5 (OpenSpec.ofChange Rows.scalarRulesSpec) false w args)
      (Rows.scalarRulesSpec.post enc Tryd.prog Tryd.f5 false true false false) :=
  law_lift_tied (G := scalarRulesGlob) (C := Tryd.checked) (s := Rows.scalarRulesSpec) scalarRulesLaid law_own law_laid started (by kernel_rfl) Tryd.func5 rfl (by kernel_rfl) (by kernel_rfl) Tryd.underlying4
    (fun ds h => by
      match ds, h with
      | [_, _, _], _ => exact ⟨rfl, rfl, rfl⟩)
    (ChangeSpec.witness_shaped (enc := enc) (C := Tryd.checked) (os := os) (X := fun w _ => laidMetH Tryd.prog scalarRulesLaid w) false (World.doorLaid Tryd.prog 400 os) #[.agg #[.int .u8 0, .int .u8 0, .int .u8 0, .int .u8 0, .int .u8 0, .int .u8 0, .int .u8 0, .int .u8 0, .int .u8 0, .int .u8 0, .int .u8 0, .int .u8 0, .int .u8 0, .int .u8 0, .int .u8 0, .int .u8 0, .int .u8 0, .int .u8 0, .int .u8 0, .int .u8 0, .int .u8 0, .int .u8 0, .int .u8 0, .int .u8 0, .int .u8 0, .int .u8 0, .int .u8 0, .int .u8 0, .int .u8 0, .int .u8 0, .int .u8 0, .int .u8 0], .agg #[.int .u8 0, .int .u8 0, .int .u8 0, .int .u8 0, .int .u8 0, .int .u8 0, .int .u8 0, .int .u8 0, .int .u8 0, .int .u8 0, .int .u8 0, .int .u8 0, .int .u8 0, .int .u8 0, .int .u8 0, .int .u8 0, .int .u8 0, .int .u8 0, .int .u8 0, .int .u8 0, .int .u8 0, .int .u8 0, .int .u8 0, .int .u8 0, .int .u8 0, .int .u8 0, .int .u8 0, .int .u8 0, .int .u8 0, .int .u8 0, .int .u8 0, .int .u8 0], .agg #[.int .u8 0, .int .u8 0, .int .u8 0, .int .u8 0, .int .u8 0, .int .u8 0, .int .u8 0, .int .u8 0, .int .u8 0, .int .u8 0, .int .u8 0, .int .u8 0, .int .u8 0, .int .u8 0, .int .u8 0, .int .u8 0, .int .u8 0, .int .u8 0, .int .u8 0, .int .u8 0, .int .u8 0, .int .u8 0, .int .u8 0, .int .u8 0, .int .u8 0, .int .u8 0, .int .u8 0, .int .u8 0, .int .u8 0, .int .u8 0, .int .u8 0, .int .u8 0]] 8 rfl (World.shaped_of_RefB (by kernel_rfl) (by kernel_rfl)) (by kernel_rfl) (by kernel_rfl) (by kernel_rfl) (scalarRules_door os _))
    scalarRules_glob (scalarRules_walk enc)

theorem scalarRules_holds : Rows.ScalarRulesSaid :=
  OpenClaim.holds_of_wide 5 Tryd.f5 rfl rfl rfl rfl rfl rfl rfl ⟨rfl, rfl, rfl, rfl, rfl⟩ rfl rfl rfl rfl rfl (by kernel_rfl) Tryd.func5 (by kernel_rfl)
    (of_decide_eq_true (by kernel_rfl)) (by unfold Func.isWrapper; first | (rw [if_pos (by decide +kernel)]; kernel_rfl) | (rw [if_neg (by decide +kernel)]; exact ⟨rfl, rfl⟩))
    (fun os started H enc _ => scalarRules_lifted os started H enc)

theorem scalarRules_card : Rows.ScalarRulesCardSaid :=
  Claim7.holds_tied_plain_at .later [] [.data] true (true, "73f3ff61b9124055fa4c9f58c9cf92d1d33fca68a61501fc0a56df298a58c5d1") false
    scalarRules_holds (fun _ h => by cases h) (by kernel_rfl) (fun _ h => by cases h) scalarRules_row_tie rfl ⟨rfl, rfl⟩ (by kernel_rfl) rfl
    (fun f fn hf hfn => by
      obtain rfl : f = 5 := Option.some.inj ((show Tryd.prog.funcNamed "portcullis/portcullislaw4.ScalarRules" = some 5 by kernel_rfl).symm.trans hf) |>.symm
      obtain rfl : fn = Tryd.f5 := (Option.some.inj (Tryd.func5.symm.trans hfn)).symm
      exact ⟨by kernel_rfl, fun j t ht => by
        rw [Tryd.params5] at ht
        have hm : t ∈ [25, 25, 25] := by simpa using Array.mem_of_getElem? ht
        have hall : ([25, 25, 25].all fun u => !Tryd.prog.wantsStandIn u) = true := by kernel_rfl
        exact (show Tryd.prog.wantsStandIn t = false by simpa using List.all_eq_true.1 hall t hm)⟩)
    (by kernel_rfl)

end Go.Proofs.YtoebokeehhfboaaDoor
