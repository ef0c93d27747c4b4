/- The statement MacSums holds, and its tied card: every call returns true and leaves its arguments as they were, where the listed variables read as they are listed; no other condition. -/
import Derived.Test.YtoojcicbeclnhaaDoorAll1
import Derived.Test.YtoojcicbeclnhaaDoorRows
import Derived.Test.YtoojcicbeclnhaaDoorCards
import Derived.Test.YtoojcicbeclnhaaDoorTie
import Derived.ProofKit
import Derived.Test.YtoojcicbeclnhaaDoorAll2
import Derived.Test.YtoojcicbeclnhaaDoorAll3
namespace Go.Proofs.YtoojcicbeclnhaaDoor
open Go.ChangeShapes Go.WideShapes Go.ChangeAt Go.WideMaps Go.WideElems Go.RowKit
set_option linter.unusedVariables false

def macSumsLaid : List (String × DataW Unit) := [("portcullis/portcullisref1.k256", Rows.laid_portcullis_portcullisref1_k256), ("portcullis/sha.roots", Rows.laid_portcullis_sha_roots)]
theorem macSums_door (os : Os) (args : Array Value) : laidMetH Tryd.prog macSumsLaid ((World.doorLaid Tryd.prog 400 os).forCall (fun _ _ => 0) ⟨#[], args, []⟩).memory :=
  laidMetH_of_parts3 (fuel := 8) (laidMet_of_run' 8 (by kernel_rfl) (by kernel_rfl)) (by kernel_rfl) (by kernel_rfl)
def macSumsGlob : World → Prop := fun W => GlobR W ∧ GlobK W
theorem macSums_glob (W : World) (h : laidMetH Tryd.prog macSumsLaid W) : macSumsGlob W := ⟨globR_of (by kernel_rfl) h (by simp [macSumsLaid]), globK_of (by kernel_rfl) h (by simp [macSumsLaid])⟩

theorem macSums_walk {H : Type} (enc : TypeId × Value → H) : LawWalkG macSumsGlob enc Tryd.prog 3 Tryd.f3.params.toList := by
  intro W base args ds ps hval hA hlt hfz hG
  rw [Tryd.params3] at hA hval
  obtain ⟨v0, v1, d0, d1, p0, p1, rfl, rfl, rfl, h0, h1⟩ := trodAll_two hA
  obtain ⟨x0, hx0⟩ := open_bytes Tryd.underlying22 Tryd.underlying5 (by kernel_rfl) (hval 0 22 v0 rfl rfl) h0
  obtain ⟨x1, hx1⟩ := open_bytes2 Tryd.underlying23 Tryd.underlying22 Tryd.underlying5 (by kernel_rfl) (by kernel_rfl) (hval 1 23 v1 rfl rfl) h1
  exact macSums_any v0 v1 x0 x1 W hx0 hx1 hG.1 hG.2

set_option maxRecDepth 100000 in
theorem macSums_lifted (os : Os) (started : os.Started) (H : Type) (enc : TypeId × Value → H) :
    ReturnsInHanded {} Tryd.checked os 3 .any (fun w args => (Rows.macSumsSpec.pre enc Tryd.prog Tryd.f3 [] false w args ∧ laidMetH Tryd.prog macSumsLaid w) ∧ sizedMet enc Tryd.prog Tryd.f3 (OpenSpec.ofChange Rows.macSumsSpec) false w args)
      (Rows.macSumsSpec.post enc Tryd.prog Tryd.f3 false true false false) :=
  law_lift_tied (G := macSumsGlob) (C := Tryd.checked) (s := Rows.macSumsSpec) macSumsLaid law_own law_laid started (by kernel_rfl) Tryd.func3 rfl (by kernel_rfl) (by kernel_rfl) Tryd.underlying4
    (fun ds h => by
      match ds, h with
      | [_, _], _ => exact ⟨rfl, rfl, rfl⟩)
    (ChangeSpec.witness_shaped (enc := enc) (C := Tryd.checked) (os := os) (X := fun w _ => laidMetH Tryd.prog macSumsLaid w) false (World.doorLaid Tryd.prog 400 os) #[.slice none 0 0, .slice none 0 0] 8 rfl (World.shaped_of_RefB (by kernel_rfl) (by kernel_rfl)) (by kernel_rfl) (by kernel_rfl) (by kernel_rfl) (macSums_door os _))
    macSums_glob (macSums_walk enc)

theorem macSums_holds : Rows.MacSumsSaid :=
  OpenClaim.holds_of_wide 3 Tryd.f3 rfl rfl rfl rfl rfl rfl rfl ⟨rfl, rfl, rfl, rfl, rfl⟩ rfl rfl rfl rfl rfl (by kernel_rfl) Tryd.func3 (by kernel_rfl)
    (of_decide_eq_true (by kernel_rfl)) (by unfold Func.isWrapper; first | (rw [if_pos (by decide +kernel)]; kernel_rfl) | (rw [if_neg (by decide +kernel)]; exact ⟨rfl, rfl⟩))
    (fun os started H enc _ => macSums_lifted os started H enc)

theorem macSums_card : Rows.MacSumsCardSaid :=
  Claim7.holds_tied_plain_at .later [] [.data, .data] true (true, "c6bdef478c74f7511f876a004239f639d690a9cfde7297ad9a891ad6ba7163b0") false
    macSums_holds (fun _ h => by cases h) (by kernel_rfl) (fun _ h => by cases h) macSums_row_tie rfl ⟨rfl, rfl⟩ (by kernel_rfl) rfl
    (fun f fn hf hfn => by
      obtain rfl : f = 3 := Option.some.inj ((show Tryd.prog.funcNamed "portcullis/portcullislaw7.MacSums" = some 3 by kernel_rfl).symm.trans hf) |>.symm
      obtain rfl : fn = Tryd.f3 := (Option.some.inj (Tryd.func3.symm.trans hfn)).symm
      exact ⟨by kernel_rfl, fun j t ht => by
        rw [Tryd.params3] at ht
        have hm : t ∈ [22, 23] := by simpa using Array.mem_of_getElem? ht
        have hall : ([22, 23].all fun u => !Tryd.prog.wantsStandIn u) = true := by kernel_rfl
        exact (show Tryd.prog.wantsStandIn t = false by simpa using List.all_eq_true.1 hall t hm)⟩)
    (by kernel_rfl)

end Go.Proofs.YtoojcicbeclnhaaDoor
