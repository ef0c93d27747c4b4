/- The statement MacMade holds, and its tied card: every call returns true and leaves its arguments as they were, where the listed variables read as they are listed; no other condition. -/
import Derived.Test.YtoojcicbeclnhaaDoorAll1
import Derived.Test.YtoojcicbeclnhaaDoorRows
import Derived.Test.YtoojcicbeclnhaaDoorCards
import Derived.Test.YtoojcicbeclnhaaDoorTie
import Derived.ProofKit
import Derived.Test.YtoojcicbeclnhaaDoorAll2
import Derived.Test.YtoojcicbeclnhaaDoorAll3
namespace Go.Proofs.YtoojcicbeclnhaaDoor
open Go.ChangeShapes Go.WideShapes Go.ChangeAt Go.WideMaps Go.WideElems Go.RowKit
set_option linter.unusedVariables false

def macMadeLaid : List (String × DataW Unit) := [("portcullis/sha.roots", Rows.laid_portcullis_sha_roots)]
theorem macMade_door (os : Os) (args : Array Value) : laidMetH Tryd.prog macMadeLaid ((World.doorLaid Tryd.prog 400 os).forCall (fun _ _ => 0) ⟨#[], args, []⟩).memory :=
  laidMetH_of_parts3 (fuel := 8) (laidMet_of_run' 8 (by kernel_rfl) (by kernel_rfl)) (by kernel_rfl) (by kernel_rfl)
def macMadeGlob : World → Prop := fun W => GlobR W
theorem macMade_glob (W : World) (h : laidMetH Tryd.prog macMadeLaid W) : macMadeGlob W := globR_of (by kernel_rfl) h (by simp [macMadeLaid])

theorem macMade_walk {H : Type} (enc : TypeId × Value → H) : LawWalkG macMadeGlob enc Tryd.prog 6 Tryd.f6.params.toList := by
  intro W base args ds ps hval hA hlt hfz hG
  rw [Tryd.params6] at hA hval
  obtain ⟨v0, v1, d0, d1, p0, p1, rfl, rfl, rfl, h0, h1⟩ := trodAll_two hA
  obtain ⟨x0, hx0⟩ := open_bytes Tryd.underlying22 Tryd.underlying5 (by kernel_rfl) (hval 0 22 v0 rfl rfl) h0
  obtain ⟨x1, hx1⟩ := open_bytes Tryd.underlying22 Tryd.underlying5 (by kernel_rfl) (hval 1 22 v1 rfl rfl) h1
  exact macMade_any v0 v1 x0 x1 W hx0 hx1 hG

set_option maxRecDepth 100000 in
theorem macMade_lifted (os : Os) (started : os.Started) (H : Type) (enc : TypeId × Value → H) :
    ReturnsInHanded {} Tryd.checked os 6 .any (fun w args => (Rows.macMadeSpec.pre enc Tryd.prog Tryd.f6 [] false w args ∧ laidMetH Tryd.prog macMadeLaid w) ∧ sizedMet enc Tryd.prog Tryd.f6 (OpenSpec.ofChange Rows.macMadeSpec) false w args)
      (Rows.macMadeSpec.post enc Tryd.prog Tryd.f6 false true false false) :=
  law_lift_tied (G := macMadeGlob) (C := Tryd.checked) (s := Rows.macMadeSpec) macMadeLaid law_own law_laid started (by kernel_rfl) Tryd.func6 rfl (by kernel_rfl) (by kernel_rfl) Tryd.underlying4
    (fun ds h => by
      match ds, h with
      | [_, _], _ => exact ⟨rfl, rfl, rfl⟩)
    (ChangeSpec.witness_shaped (enc := enc) (C := Tryd.checked) (os := os) (X := fun w _ => laidMetH Tryd.prog macMadeLaid w) false (World.doorLaid Tryd.prog 400 os) #[.slice none 0 0, .slice none 0 0] 8 rfl (World.shaped_of_RefB (by kernel_rfl) (by kernel_rfl)) (by kernel_rfl) (by kernel_rfl) (by kernel_rfl) (macMade_door os _))
    macMade_glob (macMade_walk enc)

theorem macMade_holds : Rows.MacMadeSaid :=
  OpenClaim.holds_of_wide 6 Tryd.f6 rfl rfl rfl rfl rfl rfl rfl ⟨rfl, rfl, rfl, rfl, rfl⟩ rfl rfl rfl rfl rfl (by kernel_rfl) Tryd.func6 (by kernel_rfl)
    (of_decide_eq_true (by kernel_rfl)) (by unfold Func.isWrapper; first | (rw [if_pos (by decide +kernel)]; kernel_rfl) | (rw [if_neg (by decide +kernel)]; exact ⟨rfl, rfl⟩))
    (fun os started H enc _ => macMade_lifted os started H enc)

theorem macMade_card : Rows.MacMadeCardSaid :=
  Claim7.holds_tied_plain_at .later [] [.data] true (true, "c6bdef478c74f7511f876a004239f639d690a9cfde7297ad9a891ad6ba7163b0") false
    macMade_holds (fun _ h => by cases h) (by kernel_rfl) (fun _ h => by cases h) macMade_row_tie rfl ⟨rfl, rfl⟩ (by kernel_rfl) rfl
    (fun f fn hf hfn => by
      obtain rfl : f = 6 := Option.some.inj ((show Tryd.prog.funcNamed "portcullis/portcullislaw7.MacMade" = some 6 by kernel_rfl).symm.trans hf) |>.symm
      obtain rfl : fn = Tryd.f6 := (Option.some.inj (Tryd.func6.symm.trans hfn)).symm
      exact ⟨by kernel_rfl, fun j t ht => by
        rw [Tryd.params6] at ht
        have hm : t ∈ [22, 22] := by simpa using Array.mem_of_getElem? ht
        have hall : ([22, 22].all fun u => !Tryd.prog.wantsStandIn u) = true := by kernel_rfl
        exact (show Tryd.prog.wantsStandIn t = false by simpa using List.all_eq_true.1 hall t hm)⟩)
    (by kernel_rfl)

end Go.Proofs.YtoojcicbeclnhaaDoor
