/- The statement ScalarLong holds, and its tied card: every call returns true and leaves its arguments as they were, where the listed variables read as they are listed; no other condition. -/
import Derived.Test.YtoebokeehhfboaaDoorTiedKit
import Derived.Test.YtoebokeehhfboaaDoorFldOpen
import Derived.Test.YtoebokeehhfboaaDoorRows
import Derived.Test.YtoebokeehhfboaaDoorCards
import Derived.Test.YtoebokeehhfboaaDoorTie
import Derived.ProofKit
import Derived.Test.YtoebokeehhfboaaDoorSclGlob
import Derived.Test.YtoebokeehhfboaaDoorSclLawLong
namespace Go.Proofs.YtoebokeehhfboaaDoor
open Go.ChangeShapes Go.WideShapes Go.ChangeAt Go.WideMaps Go.WideElems Go.RowKit
set_option linter.unusedVariables false

def scalarLongLaid : List (String × DataW Unit) := [("portcullis/scalar.tail", Rows.laid_portcullis_scalar_tail)]
theorem scalarLong_door (os : Os) (args : Array Value) : laidMetH Tryd.prog scalarLongLaid ((World.doorLaid Tryd.prog 400 os).forCall (fun _ _ => 0) ⟨#[], args, []⟩).memory :=
  laidMetH_of_parts3 (fuel := 8) (laidMet_of_run' 8 (by kernel_rfl) (by kernel_rfl)) (by kernel_rfl) (by kernel_rfl)
def scalarLongGlob : World → Prop := fun W => GlobT W
theorem scalarLong_glob (W : World) (h : laidMetH Tryd.prog scalarLongLaid W) : scalarLongGlob W := globT_of (by kernel_rfl) h (by simp [scalarLongLaid])

theorem scalarLong_walk {H : Type} (enc : TypeId × Value → H) : LawWalkG scalarLongGlob enc Tryd.prog 7 Tryd.f7.params.toList := by
  intro W base args ds ps hval hA hlt hfz hG
  rw [Tryd.params7] at hA hval
  obtain ⟨v0, v1, v2, d0, d1, d2, p0, p1, p2, rfl, rfl, rfl, h0, h1, h2⟩ := trodAll_three hA
  obtain ⟨x0, hx0⟩ := open_bytes Tryd.underlying22 Tryd.underlying5 (by kernel_rfl) (hval 0 22 v0 rfl rfl) h0
  obtain ⟨x1, hx1⟩ := open_bytes Tryd.underlying22 Tryd.underlying5 (by kernel_rfl) (hval 1 22 v1 rfl rfl) h1
  obtain ⟨x2, rfl⟩ := open_byte Tryd.underlying5 (hval 2 5 v2 rfl rfl) h2
  exact scalarLong_any v0 v1 x0 x1 x2 W hx0 hx1 hG

set_option maxRecDepth 100000 in
theorem scalarLong_lifted (os : Os) (started : os.Started) (H : Type) (enc : TypeId × Value → H) :
    ReturnsInHanded {} Tryd.checked os 7 .any (fun w args => (Rows.scalarLongSpec.pre enc Tryd.prog Tryd.f7 [] false w args ∧ laidMetH Tryd.prog scalarLongLaid w) ∧ sizedMet enc Tryd.prog Tryd.f7 (OpenSpec.ofChange Rows.scalarLongSpec) false w args)
      (Rows.scalarLongSpec.post enc Tryd.prog Tryd.f7 false true false false) :=
  law_lift_tied (G := scalarLongGlob) (C := Tryd.checked) (s := Rows.scalarLongSpec) scalarLongLaid law_own law_laid started (by kernel_rfl) Tryd.func7 rfl (by kernel_rfl) (by kernel_rfl) Tryd.underlying4
    (fun ds h => by
      match ds, h with
      | [_, _, _], _ => exact ⟨rfl, rfl, rfl⟩)
    (ChangeSpec.witness_shaped (enc := enc) (C := Tryd.checked) (os := os) (X := fun w _ => laidMetH Tryd.prog scalarLongLaid w) false (World.doorLaid Tryd.prog 400 os) #[.slice none 0 0, .slice none 0 0, .int .u8 0] 8 rfl (World.shaped_of_RefB (by kernel_rfl) (by kernel_rfl)) (by kernel_rfl) (by kernel_rfl) (by kernel_rfl) (scalarLong_door os _))
    scalarLong_glob (scalarLong_walk enc)

theorem scalarLong_holds : Rows.ScalarLongSaid :=
  OpenClaim.holds_of_wide 7 Tryd.f7 rfl rfl rfl rfl rfl rfl rfl ⟨rfl, rfl, rfl, rfl, rfl⟩ rfl rfl rfl rfl rfl (by kernel_rfl) Tryd.func7 (by kernel_rfl)
    (of_decide_eq_true (by kernel_rfl)) (by unfold Func.isWrapper; first | (rw [if_pos (by decide +kernel)]; kernel_rfl) | (rw [if_neg (by decide +kernel)]; exact ⟨rfl, rfl⟩))
    (fun os started H enc _ => scalarLong_lifted os started H enc)

theorem scalarLong_card : Rows.ScalarLongCardSaid :=
  Claim7.holds_tied_plain_at .later [] [.data] true (true, "73f3ff61b9124055fa4c9f58c9cf92d1d33fca68a61501fc0a56df298a58c5d1") false
    scalarLong_holds (fun _ h => by cases h) (by kernel_rfl) (fun _ h => by cases h) scalarLong_row_tie rfl ⟨rfl, rfl⟩ (by kernel_rfl) rfl
    (fun f fn hf hfn => by
      obtain rfl : f = 7 := Option.some.inj ((show Tryd.prog.funcNamed "portcullis/portcullislaw4.ScalarLong" = some 7 by kernel_rfl).symm.trans hf) |>.symm
      obtain rfl : fn = Tryd.f7 := (Option.some.inj (Tryd.func7.symm.trans hfn)).symm
      exact ⟨by kernel_rfl, fun j t ht => by
        rw [Tryd.params7] at ht
        have hm : t ∈ [22, 22, 5] := by simpa using Array.mem_of_getElem? ht
        have hall : ([22, 22, 5].all fun u => !Tryd.prog.wantsStandIn u) = true := by kernel_rfl
        exact (show Tryd.prog.wantsStandIn t = false by simpa using List.all_eq_true.1 hall t hm)⟩)
    (by kernel_rfl)

end Go.Proofs.YtoebokeehhfboaaDoor
