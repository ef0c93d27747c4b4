/- The statement MerkleMade holds, and its tied card: every call returns true and leaves its arguments as they were, where the listed variables read as they are listed; no other condition. -/
import Derived.Test.YtcadfccijeodbaaDoorAll1
import Derived.Test.YtcadfccijeodbaaDoorRows
import Derived.Test.YtcadfccijeodbaaDoorCards
import Derived.Test.YtcadfccijeodbaaDoorTie
import Derived.ProofKit
import Derived.Test.YtcadfccijeodbaaDoorAll3
namespace Go.Proofs.YtcadfccijeodbaaDoor
open Go.ChangeShapes Go.WideShapes Go.ChangeAt Go.WideMaps Go.WideElems Go.RowKit
set_option linter.unusedVariables false

def merkleMadeLaid : List (String × DataW Unit) := [("portcullis/sha.roots", Rows.laid_portcullis_sha_roots)]
theorem merkleMade_door (os : Os) (args : Array Value) : laidMetH Tryd.prog merkleMadeLaid ((World.doorLaid Tryd.prog 400 os).forCall (fun _ _ => 0) ⟨#[], args, []⟩).memory :=
  laidMetH_of_parts3 (fuel := 8) (laidMet_of_run' 8 (by kernel_rfl) (by kernel_rfl)) (by kernel_rfl) (by kernel_rfl)
def merkleMadeGlob : World → Prop := fun W => GlobR W
theorem merkleMade_glob (W : World) (h : laidMetH Tryd.prog merkleMadeLaid W) : merkleMadeGlob W := globR_of (by kernel_rfl) h (by simp [merkleMadeLaid])

set_option maxRecDepth 100000 in
theorem merkleMade_walk {H : Type} (enc : TypeId × Value → H) : LawWalkG merkleMadeGlob enc Tryd.prog 7 Tryd.f7.params.toList := by
  intro W base args ds ps hval hA hlt hfz hG
  rw [Tryd.params7] at hA hval
  obtain ⟨v0, d0, rfl, rfl, h0⟩ := trodAll_one hA
  obtain ⟨x0, hx0⟩ := open_bytes2 Tryd.underlying22 Tryd.underlying34 Tryd.underlying5 (by kernel_rfl) (by kernel_rfl) (hval 0 22 v0 rfl rfl) h0
  exact merkleMade_any x0 v0 W hx0 hG hG

set_option maxRecDepth 100000 in
theorem merkleMade_lifted (os : Os) (started : os.Started) (H : Type) (enc : TypeId × Value → H) :
    ReturnsInHanded {} Tryd.checked os 7 .any (fun w args => (Rows.merkleMadeSpec.pre enc Tryd.prog Tryd.f7 [] false w args ∧ laidMetH Tryd.prog merkleMadeLaid w) ∧ sizedMet enc Tryd.prog Tryd.f7 (OpenSpec.ofChange Rows.merkleMadeSpec) false w args)
      (Rows.merkleMadeSpec.post enc Tryd.prog Tryd.f7 false true false false) :=
  law_lift_tied (G := merkleMadeGlob) (C := Tryd.checked) (s := Rows.merkleMadeSpec) merkleMadeLaid law_own law_laid started (by kernel_rfl) Tryd.func7 rfl (by kernel_rfl) (by kernel_rfl) Tryd.underlying4
    (fun ds h => by
      match ds, h with
      | [_], _ => exact ⟨rfl, rfl, rfl⟩)
    (ChangeSpec.witness_shaped (enc := enc) (C := Tryd.checked) (os := os) (X := fun w _ => laidMetH Tryd.prog merkleMadeLaid w) false (World.doorLaid Tryd.prog 400 os) #[.slice none 0 0] 8 rfl (World.shaped_of_RefB (by kernel_rfl) (by kernel_rfl)) (by kernel_rfl) (by kernel_rfl) (by kernel_rfl) (merkleMade_door os _))
    merkleMade_glob (merkleMade_walk enc)

theorem merkleMade_holds : Rows.MerkleMadeSaid :=
  OpenClaim.holds_of_wide 7 Tryd.f7 rfl rfl rfl rfl rfl rfl rfl ⟨rfl, rfl, rfl, rfl, rfl⟩ rfl rfl rfl rfl rfl (by kernel_rfl) Tryd.func7 (by kernel_rfl)
    (of_decide_eq_true (by kernel_rfl)) (by unfold Func.isWrapper; first | (rw [if_pos (by decide +kernel)]; kernel_rfl) | (rw [if_neg (by decide +kernel)]; exact ⟨rfl, rfl⟩))
    (fun os started H enc _ => merkleMade_lifted os started H enc)

theorem merkleMade_card : Rows.MerkleMadeCardSaid :=
  Claim7.holds_tied_plain_at .later [] [.data] true (true, "caa61ed2226f45323db04e373ae89bcc99ea7871ab2e0bce4a4ee8d7e8ef9618") false
    merkleMade_holds (fun _ h => by cases h) (by kernel_rfl) (fun _ h => by cases h) merkleMade_row_tie rfl ⟨rfl, rfl⟩ (by kernel_rfl) rfl
    (fun f fn hf hfn => by
      obtain rfl : f = 7 := Option.some.inj ((show Tryd.prog.funcNamed "portcullis/portcullislaw15.MerkleMade" = some 7 by kernel_rfl).symm.trans hf) |>.symm
      obtain rfl : fn = Tryd.f7 := (Option.some.inj (Tryd.func7.symm.trans hfn)).symm
      exact ⟨by kernel_rfl, fun j t ht => by
        rw [Tryd.params7] at ht
        have hm : t ∈ [22] := by simpa using Array.mem_of_getElem? ht
        have hall : ([22].all fun u => !Tryd.prog.wantsStandIn u) = true := by kernel_rfl
        exact (show Tryd.prog.wantsStandIn t = false by simpa using List.all_eq_true.1 hall t hm)⟩)
    (by kernel_rfl)

end Go.Proofs.YtcadfccijeodbaaDoor
