/- The statement ShbSums holds, and its tied card: every call returns true and leaves its arguments as they were, where the listed variables read as they are listed; no other condition. -/
import Derived.Test.YtmadoehajapfhaaDoorTiedKit
import Derived.Test.YtmadoehajapfhaaDoorFldOpen
import Derived.Test.YtmadoehajapfhaaDoorRows
import Derived.Test.YtmadoehajapfhaaDoorCards
import Derived.Test.YtmadoehajapfhaaDoorTie
import Derived.ProofKit
import Derived.Test.YtmadoehajapfhaaDoorShbGlob
import Derived.Test.YtmadoehajapfhaaDoorShbLawSums
namespace Go.Proofs.YtmadoehajapfhaaDoor
open Go.ChangeShapes Go.WideShapes Go.ChangeAt Go.WideMaps Go.WideElems Go.RowKit
set_option linter.unusedVariables false

def shbSumsLaid : List (String × DataW Unit) := [("portcullis/portcullisref1.k512", Rows.laid_portcullis_portcullisref1_k512), ("portcullis/shb.roots", Rows.laid_portcullis_shb_roots)]
theorem shbSums_door (os : Os) (args : Array Value) : laidMetH Tryd.prog shbSumsLaid ((World.doorLaid Tryd.prog 400 os).forCall (fun _ _ => 0) ⟨#[], args, []⟩).memory :=
  laidMetH_of_parts3 (fuel := 8) (laidMet_of_run' 8 (by kernel_rfl) (by kernel_rfl)) (by kernel_rfl) (by kernel_rfl)
def shbSumsGlob : World → Prop := fun W => GlobRQ W ∧ GlobK5 W
theorem shbSums_glob (W : World) (h : laidMetH Tryd.prog shbSumsLaid W) : shbSumsGlob W := ⟨globR_ofQ (by kernel_rfl) h (by simp [shbSumsLaid]), globK_ofQ (by kernel_rfl) h (by simp [shbSumsLaid])⟩

theorem shbSums_walk {H : Type} (enc : TypeId × Value → H) : LawWalkG shbSumsGlob enc Tryd.prog 7 Tryd.f7.params.toList := by
  intro W base args ds ps hval hA hlt hfz hG
  rw [Tryd.params7] at hA hval
  obtain ⟨v0, d0, rfl, rfl, h0⟩ := trodAll_one hA
  obtain ⟨x0, hx0⟩ := open_bytes2 Tryd.underlying22 Tryd.underlying25 Tryd.underlying5 (by kernel_rfl) (by kernel_rfl) (hval 0 22 v0 rfl rfl) h0
  exact shbSums_any v0 x0 W hx0 hG.1 hG.2

set_option maxRecDepth 100000 in
theorem shbSums_lifted (os : Os) (started : os.Started) (H : Type) (enc : TypeId × Value → H) :
    ReturnsInHanded {} Tryd.checked os 7 .any (fun w args => (Rows.shbSumsSpec.pre enc Tryd.prog Tryd.f7 [] false w args ∧ laidMetH Tryd.prog shbSumsLaid w) ∧ sizedMet enc Tryd.prog Tryd.f7 (OpenSpec.ofChange Rows.shbSumsSpec) false w args)
      (Rows.shbSumsSpec.post enc Tryd.prog Tryd.f7 false true false false) :=
  law_lift_tied (G := shbSumsGlob) (C := Tryd.checked) (s := Rows.shbSumsSpec) shbSumsLaid law_own law_laid started (by kernel_rfl) Tryd.func7 rfl (by kernel_rfl) (by kernel_rfl) Tryd.underlying4
    (fun ds h => by
      match ds, h with
      | [_], _ => exact ⟨rfl, rfl, rfl⟩)
    (ChangeSpec.witness_shaped (enc := enc) (C := Tryd.checked) (os := os) (X := fun w _ => laidMetH Tryd.prog shbSumsLaid w) false (World.doorLaid Tryd.prog 400 os) #[.slice none 0 0] 8 rfl (World.shaped_of_RefB (by kernel_rfl) (by kernel_rfl)) (by kernel_rfl) (by kernel_rfl) (by kernel_rfl) (shbSums_door os _))
    shbSums_glob (shbSums_walk enc)

theorem shbSums_holds : Rows.ShbSumsSaid :=
  OpenClaim.holds_of_wide 7 Tryd.f7 rfl rfl rfl rfl rfl rfl rfl ⟨rfl, rfl, rfl, rfl, rfl⟩ rfl rfl rfl rfl rfl (by kernel_rfl) Tryd.func7 (by kernel_rfl)
    (of_decide_eq_true (by kernel_rfl)) (by unfold Func.isWrapper; first | (rw [if_pos (by decide +kernel)]; kernel_rfl) | (rw [if_neg (by decide +kernel)]; exact ⟨rfl, rfl⟩))
    (fun os started H enc _ => shbSums_lifted os started H enc)

theorem shbSums_card : Rows.ShbSumsCardSaid :=
  Claim7.holds_tied_plain_at .later [] [.data, .data] true (true, "b9e5a0c406ec12c4b4481f283827e8527d9ad2220a223da6163d2a1fb8e39a54") false
    shbSums_holds (fun _ h => by cases h) (by kernel_rfl) (fun _ h => by cases h) shbSums_row_tie rfl ⟨rfl, rfl⟩ (by kernel_rfl) rfl
    (fun f fn hf hfn => by
      obtain rfl : f = 7 := Option.some.inj ((show Tryd.prog.funcNamed "portcullis/portcullislaw6.ShbSums" = some 7 by kernel_rfl).symm.trans hf) |>.symm
      obtain rfl : fn = Tryd.f7 := (Option.some.inj (Tryd.func7.symm.trans hfn)).symm
      exact ⟨by kernel_rfl, fun j t ht => by
        rw [Tryd.params7] at ht
        have hm : t ∈ [22] := by simpa using Array.mem_of_getElem? ht
        have hall : ([22].all fun u => !Tryd.prog.wantsStandIn u) = true := by kernel_rfl
        exact (show Tryd.prog.wantsStandIn t = false by simpa using List.all_eq_true.1 hall t hm)⟩)
    (by kernel_rfl)

end Go.Proofs.YtmadoehajapfhaaDoor
