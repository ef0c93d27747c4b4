/- The statement ScalarShifts holds, and its tied card: every call returns true and leaves its arguments as they were, where the listed variables read as they are listed; no other condition. -/
import Derived.Test.YtoebokeehhfboaaDoorTiedKit
import Derived.Test.YtoebokeehhfboaaDoorFldOpen
import Derived.Test.YtoebokeehhfboaaDoorRows
import Derived.Test.YtoebokeehhfboaaDoorCards
import Derived.Test.YtoebokeehhfboaaDoorTie
import Derived.ProofKit
import Derived.Test.YtoebokeehhfboaaDoorSclGlob
import Derived.Test.YtoebokeehhfboaaDoorSclLawShifts
namespace Go.Proofs.YtoebokeehhfboaaDoor
open Go.ChangeShapes Go.WideShapes Go.ChangeAt Go.WideMaps Go.WideElems Go.RowKit
set_option linter.unusedVariables false

def scalarShiftsLaid : List (String × DataW Unit) := [("portcullis/scalar.tail", Rows.laid_portcullis_scalar_tail)]
theorem scalarShifts_door (os : Os) (args : Array Value) : laidMetH Tryd.prog scalarShiftsLaid ((World.doorLaid Tryd.prog 400 os).forCall (fun _ _ => 0) ⟨#[], args, []⟩).memory :=
  laidMetH_of_parts3 (fuel := 8) (laidMet_of_run' 8 (by kernel_rfl) (by kernel_rfl)) (by kernel_rfl) (by kernel_rfl)
def scalarShiftsGlob : World → Prop := fun W => GlobT W
theorem scalarShifts_glob (W : World) (h : laidMetH Tryd.prog scalarShiftsLaid W) : scalarShiftsGlob W := globT_of (by kernel_rfl) h (by simp [scalarShiftsLaid])

theorem scalarShifts_walk {H : Type} (enc : TypeId × Value → H) : LawWalkG scalarShiftsGlob enc Tryd.prog 6 Tryd.f6.params.toList := by
  intro W base args ds ps hval hA hlt hfz hG
  rw [Tryd.params6] at hA hval
  obtain ⟨v0, v1, d0, d1, p0, p1, rfl, rfl, rfl, h0, h1⟩ := trodAll_two hA
  obtain ⟨x0, hx0⟩ := open_bytes Tryd.underlying22 Tryd.underlying5 (by kernel_rfl) (hval 0 22 v0 rfl rfl) h0
  obtain ⟨x1, rfl⟩ := open_byte Tryd.underlying5 (hval 1 5 v1 rfl rfl) h1
  exact scalarShifts_any v0 x0 x1 W hx0 hG

set_option maxRecDepth 100000 in
theorem scalarShifts_lifted (os : Os) (started : os.Started) (H : Type) (enc : TypeId × Value → H) :
    ReturnsInHanded {} Tryd.checked os 6 .any (fun w args => (Rows.scalarShiftsSpec.pre enc Tryd.prog Tryd.f6 [] false w args ∧ laidMetH Tryd.prog scalarShiftsLaid w) ∧ sizedMet enc Tryd.prog Tryd.f6 (OpenSpec.ofChange Rows.scalarShiftsSpec) false w args)
      (Rows.scalarShiftsSpec.post enc Tryd.prog Tryd.f6 false true false false) :=
  law_lift_tied (G := scalarShiftsGlob) (C := Tryd.checked) (s := Rows.scalarShiftsSpec) scalarShiftsLaid law_own law_laid started (by kernel_rfl) Tryd.func6 rfl (by kernel_rfl) (by kernel_rfl) Tryd.underlying4
    (fun ds h => by
      match ds, h with
      | [_, _], _ => exact ⟨rfl, rfl, rfl⟩)
    (ChangeSpec.witness_shaped (enc := enc) (C := Tryd.checked) (os := os) (X := fun w _ => laidMetH Tryd.prog scalarShiftsLaid w) false (World.doorLaid Tryd.prog 400 os) #[.slice none 0 0, .int .u8 0] 8 rfl (World.shaped_of_RefB (by kernel_rfl) (by kernel_rfl)) (by kernel_rfl) (by kernel_rfl) (by kernel_rfl) (scalarShifts_door os _))
    scalarShifts_glob (scalarShifts_walk enc)

theorem scalarShifts_holds : Rows.ScalarShiftsSaid :=
  OpenClaim.holds_of_wide 6 Tryd.f6 rfl rfl rfl rfl rfl rfl rfl ⟨rfl, rfl, rfl, rfl, rfl⟩ rfl rfl rfl rfl rfl (by kernel_rfl) Tryd.func6 (by kernel_rfl)
    (of_decide_eq_true (by kernel_rfl)) (by unfold Func.isWrapper; first | (rw [if_pos (by decide +kernel)]; kernel_rfl) | (rw [if_neg (by decide +kernel)]; exact ⟨rfl, rfl⟩))
    (fun os started H enc _ => scalarShifts_lifted os started H enc)

theorem scalarShifts_card : Rows.ScalarShiftsCardSaid :=
  Claim7.holds_tied_plain_at .later [] [.data] true (true, "73f3ff61b9124055fa4c9f58c9cf92d1d33fca68a61501fc0a56df298a58c5d1") false
    scalarShifts_holds (fun _ h => by cases h) (by kernel_rfl) (fun _ h => by cases h) scalarShifts_row_tie rfl ⟨rfl, rfl⟩ (by kernel_rfl) rfl
    (fun f fn hf hfn => by
      obtain rfl : f = 6 := Option.some.inj ((show Tryd.prog.funcNamed "portcullis/portcullislaw4.ScalarShifts" = some 6 by kernel_rfl).symm.trans hf) |>.symm
      obtain rfl : fn = Tryd.f6 := (Option.some.inj (Tryd.func6.symm.trans hfn)).symm
      exact ⟨by kernel_rfl, fun j t ht => by
        rw [Tryd.params6] at ht
        have hm : t ∈ [22, 5] := by simpa using Array.mem_of_getElem? ht
        have hall : ([22, 5].all fun u => !Tryd.prog.wantsStandIn u) = true := by kernel_rfl
        exact (show Tryd.prog.wantsStandIn t = false by simpa using List.all_eq_true.1 hall t hm)⟩)
    (by kernel_rfl)

end Go.Proofs.YtoebokeehhfboaaDoor
