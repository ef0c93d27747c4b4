/- The statement ShbLengths holds, and its tied card: every call returns true and leaves its arguments as they were, where the listed variables read as they are listed; no other condition. -/
import Derived.Test.YtmadoehajapfhaaDoorTiedKit
import Derived.Test.YtmadoehajapfhaaDoorFldOpen
import Derived.Test.YtmadoehajapfhaaDoorRows
import Derived.Test.YtmadoehajapfhaaDoorCards
import Derived.Test.YtmadoehajapfhaaDoorTie
import Derived.ProofKit
import Derived.Test.YtmadoehajapfhaaDoorShbGlob
import Derived.Test.YtmadoehajapfhaaDoorShbLawLengths
namespace Go.Proofs.YtmadoehajapfhaaDoor
open Go.ChangeShapes Go.WideShapes Go.ChangeAt Go.WideMaps Go.WideElems Go.RowKit
set_option linter.unusedVariables false

def shbLengthsLaid : List (String × DataW Unit) := [("portcullis/portcullisref1.k512", Rows.laid_portcullis_portcullisref1_k512), ("portcullis/shb.roots", Rows.laid_portcullis_shb_roots)]
theorem shbLengths_door (os : Os) (args : Array Value) : laidMetH Tryd.prog shbLengthsLaid ((World.doorLaid Tryd.prog 400 os).forCall (fun _ _ => 0) ⟨#[], args, []⟩).memory :=
  laidMetH_of_parts3 (fuel := 8) (laidMet_of_run' 8 (by kernel_rfl) (by kernel_rfl)) (by kernel_rfl) (by kernel_rfl)
def shbLengthsGlob : World → Prop := fun W => GlobRQ W ∧ GlobK5 W
theorem shbLengths_glob (W : World) (h : laidMetH Tryd.prog shbLengthsLaid W) : shbLengthsGlob W := ⟨globR_ofQ (by kernel_rfl) h (by simp [shbLengthsLaid]), globK_ofQ (by kernel_rfl) h (by simp [shbLengthsLaid])⟩

theorem shbLengths_walk {H : Type} (enc : TypeId × Value → H) : LawWalkG shbLengthsGlob enc Tryd.prog 8 Tryd.f8.params.toList := by
  intro W base args ds ps hval hA hlt hfz hG
  rw [Tryd.params8] at hA hval
  obtain ⟨v0, v1, d0, d1, p0, p1, rfl, rfl, rfl, h0, h1⟩ := trodAll_two hA
  obtain ⟨x0, rfl, _, _, hw0⟩ := open_int Tryd.underlying3 (hval 0 3 v0 rfl rfl) h0
  obtain ⟨x1, rfl⟩ := open_byte Tryd.underlying5 (hval 1 5 v1 rfl rfl) h1
  exact shbLengths_any x0 x1 W (int_loQ hw0) (int_hiQ hw0) hG.1 hG.2

set_option maxRecDepth 100000 in
theorem shbLengths_lifted (os : Os) (started : os.Started) (H : Type) (enc : TypeId × Value → H) :
    ReturnsInHanded {} Tryd.checked os 8 .any (fun w args => (Rows.shbLengthsSpec.pre enc Tryd.prog Tryd.f8 [] false w args ∧ laidMetH Tryd.prog shbLengthsLaid w) ∧ sizedMet enc Tryd.prog Tryd.f8 (OpenSpec.ofChange Rows.shbLengthsSpec) false w args)
      (Rows.shbLengthsSpec.post enc Tryd.prog Tryd.f8 false true false false) :=
  law_lift_tied (G := shbLengthsGlob) (C := Tryd.checked) (s := Rows.shbLengthsSpec) shbLengthsLaid law_own law_laid started (by kernel_rfl) Tryd.func8 rfl (by kernel_rfl) (by kernel_rfl) Tryd.underlying4
    (fun ds h => by
      match ds, h with
      | [_, _], _ => exact ⟨rfl, rfl, rfl⟩)
    (ChangeSpec.witness_shaped (enc := enc) (C := Tryd.checked) (os := os) (X := fun w _ => laidMetH Tryd.prog shbLengthsLaid w) false (World.doorLaid Tryd.prog 400 os) #[.int .i64 0, .int .u8 0] 8 rfl (World.shaped_of_RefB (by kernel_rfl) (by kernel_rfl)) (by kernel_rfl) (by kernel_rfl) (by kernel_rfl) (shbLengths_door os _))
    shbLengths_glob (shbLengths_walk enc)

theorem shbLengths_holds : Rows.ShbLengthsSaid :=
  OpenClaim.holds_of_wide 8 Tryd.f8 rfl rfl rfl rfl rfl rfl rfl ⟨rfl, rfl, rfl, rfl, rfl⟩ rfl rfl rfl rfl rfl (by kernel_rfl) Tryd.func8 (by kernel_rfl)
    (of_decide_eq_true (by kernel_rfl)) (by unfold Func.isWrapper; first | (rw [if_pos (by decide +kernel)]; kernel_rfl) | (rw [if_neg (by decide +kernel)]; exact ⟨rfl, rfl⟩))
    (fun os started H enc _ => shbLengths_lifted os started H enc)

theorem shbLengths_card : Rows.ShbLengthsCardSaid :=
  Claim7.holds_tied_plain_at .later [] [.data, .data] true (true, "b9e5a0c406ec12c4b4481f283827e8527d9ad2220a223da6163d2a1fb8e39a54") false
    shbLengths_holds (fun _ h => by cases h) (by kernel_rfl) (fun _ h => by cases h) shbLengths_row_tie rfl ⟨rfl, rfl⟩ (by kernel_rfl) rfl
    (fun f fn hf hfn => by
      obtain rfl : f = 8 := Option.some.inj ((show Tryd.prog.funcNamed "portcullis/portcullislaw6.ShbLengths" = some 8 by kernel_rfl).symm.trans hf) |>.symm
      obtain rfl : fn = Tryd.f8 := (Option.some.inj (Tryd.func8.symm.trans hfn)).symm
      exact ⟨by kernel_rfl, fun j t ht => by
        rw [Tryd.params8] at ht
        have hm : t ∈ [3, 5] := by simpa using Array.mem_of_getElem? ht
        have hall : ([3, 5].all fun u => !Tryd.prog.wantsStandIn u) = true := by kernel_rfl
        exact (show Tryd.prog.wantsStandIn t = false by simpa using List.all_eq_true.1 hall t hm)⟩)
    (by kernel_rfl)

end Go.Proofs.YtmadoehajapfhaaDoor
