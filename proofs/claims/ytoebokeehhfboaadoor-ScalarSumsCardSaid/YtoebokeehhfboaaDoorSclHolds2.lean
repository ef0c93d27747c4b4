/- The statement ScalarSums holds, and its tied card: every call returns true and leaves its arguments as they were, where the listed variables read as they are listed; no other condition. -/
import Derived.Test.YtoebokeehhfboaaDoorTiedKit
import Derived.Test.YtoebokeehhfboaaDoorFldOpen
import Derived.Test.YtoebokeehhfboaaDoorRows
import Derived.Test.YtoebokeehhfboaaDoorCards
import Derived.Test.YtoebokeehhfboaaDoorTie
import Derived.ProofKit
import Derived.Test.YtoebokeehhfboaaDoorSclGlob
import Derived.Test.YtoebokeehhfboaaDoorSclLawSums
namespace Go.Proofs.YtoebokeehhfboaaDoor
open Go.ChangeShapes Go.WideShapes Go.ChangeAt Go.WideMaps Go.WideElems Go.RowKit
set_option linter.unusedVariables false

def scalarSumsLaid : List (String × DataW Unit) := [("portcullis/portcullisref3.order", Rows.laid_portcullis_portcullisref3_order), ("portcullis/scalar.tail", Rows.laid_portcullis_scalar_tail)]
theorem scalarSums_door (os : Os) (args : Array Value) : laidMetH Tryd.prog scalarSumsLaid ((World.doorLaid Tryd.prog 400 os).forCall (fun _ _ => 0) ⟨#[], args, []⟩).memory :=
  laidMetH_of_parts3 (fuel := 8) (laidMet_of_run' 8 (by kernel_rfl) (by kernel_rfl)) (by kernel_rfl) (by kernel_rfl)
def scalarSumsGlob : World → Prop := fun W => GlobT W ∧ GlobO W
theorem scalarSums_glob (W : World) (h : laidMetH Tryd.prog scalarSumsLaid W) : scalarSumsGlob W := ⟨globT_of (by kernel_rfl) h (by simp [scalarSumsLaid]), globO_of (by kernel_rfl) h (by simp [scalarSumsLaid])⟩

theorem scalarSums_walk {H : Type} (enc : TypeId × Value → H) : LawWalkG scalarSumsGlob enc Tryd.prog 4 Tryd.f4.params.toList := by
  intro W base args ds ps hval hA hlt hfz hG
  rw [Tryd.params4] at hA hval
  obtain ⟨v0, v1, d0, d1, p0, p1, rfl, rfl, rfl, h0, h1⟩ := trodAll_two hA
  obtain ⟨x0, rfl, hx0⟩ := open_num Tryd.underlying25 Tryd.underlying5 (by kernel_rfl) (by kernel_rfl) (hval 0 25 v0 rfl rfl) h0
  obtain ⟨x1, rfl, hx1⟩ := open_num Tryd.underlying25 Tryd.underlying5 (by kernel_rfl) (by kernel_rfl) (hval 1 25 v1 rfl rfl) h1
  exact scalarSums_any x0 x1 W hx0 hx1 hG.1 hG.2

set_option maxRecDepth 100000 in
theorem scalarSums_lifted (os : Os) (started : os.Started) (H : Type) (enc : TypeId × Value → H) :
    ReturnsInHanded {} Tryd.checked os 4 .any (fun w args => (Rows.scalarSumsSpec.pre enc Tryd.prog Tryd.f4 [] false w args ∧ laidMetH Tryd.prog scalarSumsLaid w) ∧ sizedMet enc Tryd.prog Tryd.f4 (OpenSpec.ofChange Rows.scalarSumsSpec) false w args)
      (Rows.scalarSumsSpec.post enc Tryd.prog Tryd.f4 false true false false) :=
  law_lift_tied (G := scalarSumsGlob) (C := Tryd.checked) (s := Rows.scalarSumsSpec) scalarSumsLaid law_own law_laid started (by kernel_rfl) Tryd.func4 rfl (by kernel_rfl) (by kernel_rfl) Tryd.underlying4
    (fun ds h => by
      match ds, h with
      | [_, _], _ => exact ⟨rfl, rfl, rfl⟩)
    (ChangeSpec.witness_shaped (enc := enc) (C := Tryd.checked) (os := os) (X := fun w _ => laidMetH Tryd.prog scalarSumsLaid w) false (World.doorLaid Tryd.prog 400 os) #[.agg #[.int .u8 0, .int .u8 0, .int .u8 0, .int .u8 0, .int .u8 0, .int .u8 0, .int .u8 0, .int .u8 0, .int .u8 0, .int .u8 0, .int .u8 0, .int .u8 0, .int .u8 0, .int .u8 0, .int .u8 0, .int .u8 0, .int .u8 0, .int .u8 0, .int .u8 0, .int .u8 0, .int .u8 0, .int .u8 0, .int .u8 0, .int .u8 0, .int .u8 0, .int .u8 0, .int .u8 0, .int .u8 0, .int .u8 0, .int .u8 0, .int .u8 0, .int .u8 0], .agg #[.int .u8 0, .int .u8 0, .int .u8 0, .int .u8 0, .int .u8 0, .int .u8 0, .int .u8 0, .int .u8 0, .int .u8 0, .int .u8 0, .int .u8 0, .int .u8 0, .int .u8 0, .int .u8 0, .int .u8 0, .int .u8 0, .int .u8 0, .int .u8 0, .int .u8 0, .int .u8 0, .int .u8 0, .int .u8 0, .int .u8 0, .int .u8 0, .int .u8 0, .int .u8 0, .int .u8 0, .int .u8 0, .int .u8 0, .int .u8 0, .int .u8 0, .int .u8 0]] 8 rfl (World.shaped_of_RefB (by kernel_rfl) (by kernel_rfl)) (by kernel_rfl) (by kernel_rfl) (by kernel_rfl) (scalarSums_door os _))
    scalarSums_glob (scalarSums_walk enc)

theorem scalarSums_holds : Rows.ScalarSumsSaid :=
  OpenClaim.holds_of_wide 4 Tryd.f4 rfl rfl rfl rfl rfl rfl rfl ⟨rfl, rfl, rfl, rfl, rfl⟩ rfl rfl rfl rfl rfl (by kernel_rfl) Tryd.func4 (by kernel_rfl)
    (of_decide_eq_true (by kernel_rfl)) (by unfold Func.isWrapper; first | (rw [if_pos (by decide +kernel)]; kernel_rfl) | (rw [if_neg (by decide +kernel)]; exact ⟨rfl, rfl⟩))
    (fun os started H enc _ => scalarSums_lifted os started H enc)

theorem scalarSums_card : Rows.ScalarSumsCardSaid :=
  Claim7.holds_tied_plain_at .later [] [.data, .data] true (true, "73f3ff61b9124055fa4c9f58c9cf92d1d33fca68a61501fc0a56df298a58c5d1") false
    scalarSums_holds (fun _ h => by cases h) (by kernel_rfl) (fun _ h => by cases h) scalarSums_row_tie rfl ⟨rfl, rfl⟩ (by kernel_rfl) rfl
    (fun f fn hf hfn => by
      obtain rfl : f = 4 := Option.some.inj ((show Tryd.prog.funcNamed "portcullis/portcullislaw4.ScalarSums" = some 4 by kernel_rfl).symm.trans hf) |>.symm
      obtain rfl : fn = Tryd.f4 := (Option.some.inj (Tryd.func4.symm.trans hfn)).symm
      exact ⟨by kernel_rfl, fun j t ht => by
        rw [Tryd.params4] at ht
        have hm : t ∈ [25, 25] := by simpa using Array.mem_of_getElem? ht
        have hall : ([25, 25].all fun u => !Tryd.prog.wantsStandIn u) = true := by kernel_rfl
        exact (show Tryd.prog.wantsStandIn t = false by simpa using List.all_eq_true.1 hall t hm)⟩)
    (by kernel_rfl)

end Go.Proofs.YtoebokeehhfboaaDoor
