/- The statement DeriveSalts holds, and its tied card: every call returns true and leaves its arguments as they were, where the listed variables read as they are listed; no other condition. -/
import Derived.Test.YtcfmobgnlejpeaaDoorAll1
import Derived.Test.YtcfmobgnlejpeaaDoorRows
import Derived.Test.YtcfmobgnlejpeaaDoorCards
import Derived.Test.YtcfmobgnlejpeaaDoorTie
import Derived.ProofKit
import Derived.Test.YtcfmobgnlejpeaaDoorAll2
import Derived.Test.YtcfmobgnlejpeaaDoorAll3
namespace Go.Proofs.YtcfmobgnlejpeaaDoor
open Go.ChangeShapes Go.WideShapes Go.ChangeAt Go.WideMaps Go.WideElems Go.RowKit
set_option linter.unusedVariables false

def deriveSaltsLaid : List (String × DataW Unit) := [("portcullis/portcullisref1.k256", Rows.laid_portcullis_portcullisref1_k256), ("portcullis/sha.roots", Rows.laid_portcullis_sha_roots)]
theorem deriveSalts_door (os : Os) (args : Array Value) : laidMetH Tryd.prog deriveSaltsLaid ((World.doorLaid Tryd.prog 400 os).forCall (fun _ _ => 0) ⟨#[], args, []⟩).memory :=
  laidMetH_of_parts3 (fuel := 8) (laidMet_of_run' 8 (by kernel_rfl) (by kernel_rfl)) (by kernel_rfl) (by kernel_rfl)
def deriveSaltsGlob : World → Prop := fun W => GlobR W ∧ GlobK W
theorem deriveSalts_glob (W : World) (h : laidMetH Tryd.prog deriveSaltsLaid W) : deriveSaltsGlob W := ⟨globR_of (by kernel_rfl) h (by simp [deriveSaltsLaid]), globK_of (by kernel_rfl) h (by simp [deriveSaltsLaid])⟩

theorem deriveSalts_walk {H : Type} (enc : TypeId × Value → H) : LawWalkG deriveSaltsGlob enc Tryd.prog 7 Tryd.f7.params.toList := by
  intro W base args ds ps hval hA hlt hfz hG
  rw [Tryd.params7] at hA hval
  obtain ⟨v0, v1, v2, d0, d1, d2, p0, p1, p2, rfl, rfl, rfl, h0, h1, h2⟩ := trodAll_three hA
  obtain ⟨x0, hx0⟩ := open_bytes Tryd.underlying22 Tryd.underlying5 (by kernel_rfl) (hval 0 22 v0 rfl rfl) h0
  obtain ⟨x1, hx1⟩ := open_bytes Tryd.underlying22 Tryd.underlying5 (by kernel_rfl) (hval 1 22 v1 rfl rfl) h1
  obtain ⟨x2, rfl, _, _, hw2⟩ := open_int Tryd.underlying3 (hval 2 3 v2 rfl rfl) h2
  exact deriveSalts_any v0 v1 x0 x1 x2 W hx0 hx1 (int_lo hw2) (int_hi hw2) hG.1 hG.2

set_option maxRecDepth 100000 in
theorem deriveSalts_lifted (os : Os) (started : os.Started) (H : Type) (enc : TypeId × Value → H) :
    ReturnsInHanded {} Tryd.checked os 7 .any (fun w args => (Rows.deriveSaltsSpec.pre enc Tryd.prog Tryd.f7 [] false w args ∧ laidMetH Tryd.prog deriveSaltsLaid w) ∧ sizedMet enc Tryd.prog Tryd.f7 (OpenSpec.ofChange Rows.deriveSaltsSpec) false w args)
      (Rows.deriveSaltsSpec.post enc Tryd.prog Tryd.f7 false true false false) :=
  law_lift_tied (G := deriveSaltsGlob) (C := Tryd.checked) (s := Rows.deriveSaltsSpec) deriveSaltsLaid law_own law_laid started (by kernel_rfl) Tryd.func7 rfl (by kernel_rfl) (by kernel_rfl) Tryd.underlying4
    (fun ds h => by
      match ds, h with
      | [_, _, _], _ => exact ⟨rfl, rfl, rfl⟩)
    (ChangeSpec.witness_shaped (enc := enc) (C := Tryd.checked) (os := os) (X := fun w _ => laidMetH Tryd.prog deriveSaltsLaid w) false (World.doorLaid Tryd.prog 400 os) #[.slice none 0 0, .slice none 0 0, .int .i64 0] 8 rfl (World.shaped_of_RefB (by kernel_rfl) (by kernel_rfl)) (by kernel_rfl) (by kernel_rfl) (by kernel_rfl) (deriveSalts_door os _))
    deriveSalts_glob (deriveSalts_walk enc)

theorem deriveSalts_holds : Rows.DeriveSaltsSaid :=
  OpenClaim.holds_of_wide 7 Tryd.f7 rfl rfl rfl rfl rfl rfl rfl ⟨rfl, rfl, rfl, rfl, rfl⟩ rfl rfl rfl rfl rfl (by kernel_rfl) Tryd.func7 (by kernel_rfl)
    (of_decide_eq_true (by kernel_rfl)) (by unfold Func.isWrapper; first | (rw [if_pos (by decide +kernel)]; kernel_rfl) | (rw [if_neg (by decide +kernel)]; exact ⟨rfl, rfl⟩))
    (fun os started H enc _ => deriveSalts_lifted os started H enc)

theorem deriveSalts_card : Rows.DeriveSaltsCardSaid :=
  Claim7.holds_tied_plain_at .later [] [.data, .data] true (true, "4a0baaeef2331e99db80be008057f76bba22a96d30b0428fb9d14adc79b3ce78") false
    deriveSalts_holds (fun _ h => by cases h) (by kernel_rfl) (fun _ h => by cases h) deriveSalts_row_tie rfl ⟨rfl, rfl⟩ (by kernel_rfl) rfl
    (fun f fn hf hfn => by
      obtain rfl : f = 7 := Option.some.inj ((show Tryd.prog.funcNamed "portcullis/portcullislaw8.DeriveSalts" = some 7 by kernel_rfl).symm.trans hf) |>.symm
      obtain rfl : fn = Tryd.f7 := (Option.some.inj (Tryd.func7.symm.trans hfn)).symm
      exact ⟨by kernel_rfl, fun j t ht => by
        rw [Tryd.params7] at ht
        have hm : t ∈ [22, 22, 3] := by simpa using Array.mem_of_getElem? ht
        have hall : ([22, 22, 3].all fun u => !Tryd.prog.wantsStandIn u) = true := by kernel_rfl
        exact (show Tryd.prog.wantsStandIn t = false by simpa using List.all_eq_true.1 hall t hm)⟩)
    (by kernel_rfl)

end Go.Proofs.YtcfmobgnlejpeaaDoor
