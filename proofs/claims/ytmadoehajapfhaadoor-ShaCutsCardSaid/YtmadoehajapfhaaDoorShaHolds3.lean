/- The statement ShaCuts holds, and its tied card: every call returns true and leaves its arguments as they were, where the listed variables read as they are listed; no other condition. -/
import Derived.Test.YtmadoehajapfhaaDoorTiedKit
import Derived.Test.YtmadoehajapfhaaDoorFldOpen
import Derived.Test.YtmadoehajapfhaaDoorRows
import Derived.Test.YtmadoehajapfhaaDoorCards
import Derived.Test.YtmadoehajapfhaaDoorTie
import Derived.ProofKit
import Derived.Test.YtmadoehajapfhaaDoorShaGlob
import Derived.Test.YtmadoehajapfhaaDoorShaLawCuts
namespace Go.Proofs.YtmadoehajapfhaaDoor
open Go.ChangeShapes Go.WideShapes Go.ChangeAt Go.WideMaps Go.WideElems Go.RowKit
set_option linter.unusedVariables false

def shaCutsLaid : List (String × DataW Unit) := [("portcullis/portcullisref1.k256", Rows.laid_portcullis_portcullisref1_k256), ("portcullis/sha.roots", Rows.laid_portcullis_sha_roots)]
theorem shaCuts_door (os : Os) (args : Array Value) : laidMetH Tryd.prog shaCutsLaid ((World.doorLaid Tryd.prog 400 os).forCall (fun _ _ => 0) ⟨#[], args, []⟩).memory :=
  laidMetH_of_parts3 (fuel := 8) (laidMet_of_run' 8 (by kernel_rfl) (by kernel_rfl)) (by kernel_rfl) (by kernel_rfl)
def shaCutsGlob : World → Prop := fun W => GlobR W ∧ GlobK W
theorem shaCuts_glob (W : World) (h : laidMetH Tryd.prog shaCutsLaid W) : shaCutsGlob W := ⟨globR_of (by kernel_rfl) h (by simp [shaCutsLaid]), globK_of (by kernel_rfl) h (by simp [shaCutsLaid])⟩

theorem shaCuts_walk {H : Type} (enc : TypeId × Value → H) : LawWalkG shaCutsGlob enc Tryd.prog 5 Tryd.f5.params.toList := by
  intro W base args ds ps hval hA hlt hfz hG
  rw [Tryd.params5] at hA hval
  obtain ⟨v0, v1, v2, d0, d1, d2, p0, p1, p2, rfl, rfl, rfl, h0, h1, h2⟩ := trodAll_three hA
  obtain ⟨x0, hx0⟩ := open_bytes Tryd.underlying25 Tryd.underlying5 (by kernel_rfl) (hval 0 25 v0 rfl rfl) h0
  obtain ⟨x1, rfl, _, _, hw1⟩ := open_int Tryd.underlying3 (hval 1 3 v1 rfl rfl) h1
  obtain ⟨x2, rfl, _, _, hw2⟩ := open_int Tryd.underlying3 (hval 2 3 v2 rfl rfl) h2
  exact shaCuts_any v0 x0 x1 x2 W hx0 (int_lo hw1) (int_hi hw1) (int_lo hw2) (int_hi hw2) hG.1 hG.2

set_option maxRecDepth 100000 in
theorem shaCuts_lifted (os : Os) (started : os.Started) (H : Type) (enc : TypeId × Value → H) :
    ReturnsInHanded {} Tryd.checked os 5 .any (fun w args => (Rows.shaCutsSpec.pre enc Tryd.prog Tryd.f5 [] false w args ∧ laidMetH Tryd.prog shaCutsLaid w) ∧ sizedMet enc Tryd.prog Tryd.f5 (OpenSpec.ofChange Rows.shaCutsSpec) false w args)
      (Rows.shaCutsSpec.post enc Tryd.prog Tryd.f5 false true false false) :=
  law_lift_tied (G := shaCutsGlob) (C := Tryd.checked) (s := Rows.shaCutsSpec) shaCutsLaid law_own law_laid started (by kernel_rfl) Tryd.func5 rfl (by kernel_rfl) (by kernel_rfl) Tryd.underlying4
    (fun ds h => by
      match ds, h with
      | [_, _, _], _ => exact ⟨rfl, rfl, rfl⟩)
    (ChangeSpec.witness_shaped (enc := enc) (C := Tryd.checked) (os := os) (X := fun w _ => laidMetH Tryd.prog shaCutsLaid w) false (World.doorLaid Tryd.prog 400 os) #[.slice none 0 0, .int .i64 0, .int .i64 0] 8 rfl (World.shaped_of_RefB (by kernel_rfl) (by kernel_rfl)) (by kernel_rfl) (by kernel_rfl) (by kernel_rfl) (shaCuts_door os _))
    shaCuts_glob (shaCuts_walk enc)

theorem shaCuts_holds : Rows.ShaCutsSaid :=
  OpenClaim.holds_of_wide 5 Tryd.f5 rfl rfl rfl rfl rfl rfl rfl ⟨rfl, rfl, rfl, rfl, rfl⟩ rfl rfl rfl rfl rfl (by kernel_rfl) Tryd.func5 (by kernel_rfl)
    (of_decide_eq_true (by kernel_rfl)) (by unfold Func.isWrapper; first | (rw [if_pos (by decide +kernel)]; kernel_rfl) | (rw [if_neg (by decide +kernel)]; exact ⟨rfl, rfl⟩))
    (fun os started H enc _ => shaCuts_lifted os started H enc)

theorem shaCuts_card : Rows.ShaCutsCardSaid :=
  Claim7.holds_tied_plain_at .later [] [.data, .data] true (true, "b9e5a0c406ec12c4b4481f283827e8527d9ad2220a223da6163d2a1fb8e39a54") false
    shaCuts_holds (fun _ h => by cases h) (by kernel_rfl) (fun _ h => by cases h) shaCuts_row_tie rfl ⟨rfl, rfl⟩ (by kernel_rfl) rfl
    (fun f fn hf hfn => by
      obtain rfl : f = 5 := Option.some.inj ((show Tryd.prog.funcNamed "portcullis/portcullislaw5.ShaCuts" = some 5 by kernel_rfl).symm.trans hf) |>.symm
      obtain rfl : fn = Tryd.f5 := (Option.some.inj (Tryd.func5.symm.trans hfn)).symm
      exact ⟨by kernel_rfl, fun j t ht => by
        rw [Tryd.params5] at ht
        have hm : t ∈ [25, 3, 3] := by simpa using Array.mem_of_getElem? ht
        have hall : ([25, 3, 3].all fun u => !Tryd.prog.wantsStandIn u) = true := by kernel_rfl
        exact (show Tryd.prog.wantsStandIn t = false by simpa using List.all_eq_true.1 hall t hm)⟩)
    (by kernel_rfl)

end Go.Proofs.YtmadoehajapfhaaDoor
