/- The statement DeriveMost holds, and its tied card: every call returns true and leaves its arguments as they were, where the listed variables read as they are listed; no other condition. -/
import Derived.Test.YtcfmobgnlejpeaaDoorAll1
import Derived.Test.YtcfmobgnlejpeaaDoorRows
import Derived.Test.YtcfmobgnlejpeaaDoorCards
import Derived.Test.YtcfmobgnlejpeaaDoorTie
import Derived.ProofKit
import Derived.Test.YtcfmobgnlejpeaaDoorAll2
import Derived.Test.YtcfmobgnlejpeaaDoorAll3
namespace Go.Proofs.YtcfmobgnlejpeaaDoor
open Go.ChangeShapes Go.WideShapes Go.ChangeAt Go.WideMaps Go.WideElems Go.RowKit
set_option linter.unusedVariables false

def deriveMostLaid : List (String × DataW Unit) := [("portcullis/portcullisref1.k256", Rows.laid_portcullis_portcullisref1_k256), ("portcullis/sha.roots", Rows.laid_portcullis_sha_roots)]
theorem deriveMost_door (os : Os) (args : Array Value) : laidMetH Tryd.prog deriveMostLaid ((World.doorLaid Tryd.prog 400 os).forCall (fun _ _ => 0) ⟨#[], args, []⟩).memory :=
  laidMetH_of_parts3 (fuel := 8) (laidMet_of_run' 8 (by kernel_rfl) (by kernel_rfl)) (by kernel_rfl) (by kernel_rfl)
def deriveMostGlob : World → Prop := fun W => GlobR W ∧ GlobK W
theorem deriveMost_glob (W : World) (h : laidMetH Tryd.prog deriveMostLaid W) : deriveMostGlob W := ⟨globR_of (by kernel_rfl) h (by simp [deriveMostLaid]), globK_of (by kernel_rfl) h (by simp [deriveMostLaid])⟩

theorem deriveMost_walk {H : Type} (enc : TypeId × Value → H) : LawWalkG deriveMostGlob enc Tryd.prog 8 Tryd.f8.params.toList := by
  intro W base args ds ps hval hA hlt hfz hG
  rw [Tryd.params8] at hA hval
  obtain ⟨v0, v1, d0, d1, p0, p1, rfl, rfl, rfl, h0, h1⟩ := trodAll_two hA
  obtain ⟨x0, rfl, hx0⟩ := open_num Tryd.underlying25 Tryd.underlying5 (by kernel_rfl) (by kernel_rfl) (hval 0 25 v0 rfl rfl) h0
  obtain ⟨x1, rfl, _, _, hw1⟩ := open_int Tryd.underlying3 (hval 1 3 v1 rfl rfl) h1
  exact deriveMost_any x0 x1 W hx0 (int_lo hw1) (int_hi hw1) hG.1 hG.2

set_option maxRecDepth 100000 in
theorem deriveMost_lifted (os : Os) (started : os.Started) (H : Type) (enc : TypeId × Value → H) :
    ReturnsInHanded {} Tryd.checked os 8 .any (fun w args => (Rows.deriveMostSpec.pre enc Tryd.prog Tryd.f8 [] false w args ∧ laidMetH Tryd.prog deriveMostLaid w) ∧ sizedMet enc Tryd.prog Tryd.f8 (OpenSpec.ofChange Rows.deriveMostSpec) false w args)
      (Rows.deriveMostSpec.post enc Tryd.prog Tryd.f8 false true false false) :=
  law_lift_tied (G := deriveMostGlob) (C := Tryd.checked) (s := Rows.deriveMostSpec) deriveMostLaid law_own law_laid started (by kernel_rfl) Tryd.func8 rfl (by kernel_rfl) (by kernel_rfl) Tryd.underlying4
    (fun ds h => by
      match ds, h with
      | [_, _], _ => exact ⟨rfl, rfl, rfl⟩)
    (ChangeSpec.witness_shaped (enc := enc) (C := Tryd.checked) (os := os) (X := fun w _ => laidMetH Tryd.prog deriveMostLaid w) false (World.doorLaid Tryd.prog 400 os) #[.agg #[.int .u8 0, .int .u8 0, .int .u8 0, .int .u8 0, .int .u8 0, .int .u8 0, .int .u8 0, .int .u8 0, .int .u8 0, .int .u8 0, .int .u8 0, .int .u8 0, .int .u8 0, .int .u8 0, .int .u8 0, .int .u8 0, .int .u8 0, .int .u8 0, .int .u8 0, .int .u8 0, .int .u8 0, .int .u8 0, .int .u8 0, .int .u8 0, .int .u8 0, .int .u8 0, .int .u8 0, .int .u8 0, .int .u8 0, .int .u8 0, .int .u8 0, .int .u8 0], .int .i64 0] 8 rfl (World.shaped_of_RefB (by kernel_rfl) (by kernel_rfl)) (by kernel_rfl) (by kernel_rfl) (by kernel_rfl) (deriveMost_door os _))
    deriveMost_glob (deriveMost_walk enc)

theorem deriveMost_holds : Rows.DeriveMostSaid :=
  OpenClaim.holds_of_wide 8 Tryd.f8 rfl rfl rfl rfl rfl rfl rfl ⟨rfl, rfl, rfl, rfl, rfl⟩ rfl rfl rfl rfl rfl (by kernel_rfl) Tryd.func8 (by kernel_rfl)
    (of_decide_eq_true (by kernel_rfl)) (by unfold Func.isWrapper; first | (rw [if_pos (by decide +kernel)]; kernel_rfl) | (rw [if_neg (by decide +kernel)]; exact ⟨rfl, rfl⟩))
    (fun os started H enc _ => deriveMost_lifted os started H enc)

theorem deriveMost_card : Rows.DeriveMostCardSaid :=
  Claim7.holds_tied_plain_at .later [] [.data, .data] true (true, "4a0baaeef2331e99db80be008057f76bba22a96d30b0428fb9d14adc79b3ce78") false
    deriveMost_holds (fun _ h => by cases h) (by kernel_rfl) (fun _ h => by cases h) deriveMost_row_tie rfl ⟨rfl, rfl⟩ (by kernel_rfl) rfl
    (fun f fn hf hfn => by
      obtain rfl : f = 8 := Option.some.inj ((show Tryd.prog.funcNamed "portcullis/portcullislaw8.DeriveMost" = some 8 by kernel_rfl).symm.trans hf) |>.symm
      obtain rfl : fn = Tryd.f8 := (Option.some.inj (Tryd.func8.symm.trans hfn)).symm
      exact ⟨by kernel_rfl, fun j t ht => by
        rw [Tryd.params8] at ht
        have hm : t ∈ [25, 3] := by simpa using Array.mem_of_getElem? ht
        have hall : ([25, 3].all fun u => !Tryd.prog.wantsStandIn u) = true := by kernel_rfl
        exact (show Tryd.prog.wantsStandIn t = false by simpa using List.all_eq_true.1 hall t hm)⟩)
    (by kernel_rfl)

end Go.Proofs.YtcfmobgnlejpeaaDoor
