/- The statement DeriveBegins holds, and its tied card: every call returns true and leaves its arguments as they were, where the listed variables read as they are listed; no other condition. -/
import Derived.Test.YtcfmobgnlejpeaaDoorAll1
import Derived.Test.YtcfmobgnlejpeaaDoorRows
import Derived.Test.YtcfmobgnlejpeaaDoorCards
import Derived.Test.YtcfmobgnlejpeaaDoorTie
import Derived.ProofKit
import Derived.Test.YtcfmobgnlejpeaaDoorAll2
import Derived.Test.YtcfmobgnlejpeaaDoorAll3
namespace Go.Proofs.YtcfmobgnlejpeaaDoor
open Go.ChangeShapes Go.WideShapes Go.ChangeAt Go.WideMaps Go.WideElems Go.RowKit
set_option linter.unusedVariables false

def deriveBeginsLaid : List (String × DataW Unit) := [("portcullis/portcullisref1.k256", Rows.laid_portcullis_portcullisref1_k256), ("portcullis/sha.roots", Rows.laid_portcullis_sha_roots)]
theorem deriveBegins_door (os : Os) (args : Array Value) : laidMetH Tryd.prog deriveBeginsLaid ((World.doorLaid Tryd.prog 400 os).forCall (fun _ _ => 0) ⟨#[], args, []⟩).memory :=
  laidMetH_of_parts3 (fuel := 8) (laidMet_of_run' 8 (by kernel_rfl) (by kernel_rfl)) (by kernel_rfl) (by kernel_rfl)
def deriveBeginsGlob : World → Prop := fun W => GlobR W ∧ GlobK W
theorem deriveBegins_glob (W : World) (h : laidMetH Tryd.prog deriveBeginsLaid W) : deriveBeginsGlob W := ⟨globR_of (by kernel_rfl) h (by simp [deriveBeginsLaid]), globK_of (by kernel_rfl) h (by simp [deriveBeginsLaid])⟩

theorem deriveBegins_walk {H : Type} (enc : TypeId × Value → H) : LawWalkG deriveBeginsGlob enc Tryd.prog 5 Tryd.f5.params.toList := by
  intro W base args ds ps hval hA hlt hfz hG
  rw [Tryd.params5] at hA hval
  obtain ⟨v0, v1, v2, v3, d0, d1, d2, d3, p0, p1, p2, p3, rfl, rfl, rfl, h0, h1, h2, h3⟩ := trodAll_four hA
  obtain ⟨x0, rfl, hx0⟩ := open_num Tryd.underlying25 Tryd.underlying5 (by kernel_rfl) (by kernel_rfl) (hval 0 25 v0 rfl rfl) h0
  obtain ⟨x1, hx1⟩ := open_bytes Tryd.underlying22 Tryd.underlying5 (by kernel_rfl) (hval 1 22 v1 rfl rfl) h1
  obtain ⟨x2, rfl, _, _, hw2⟩ := open_int Tryd.underlying3 (hval 2 3 v2 rfl rfl) h2
  obtain ⟨x3, rfl, _, _, hw3⟩ := open_int Tryd.underlying3 (hval 3 3 v3 rfl rfl) h3
  exact deriveBegins_any v1 x0 x1 x2 x3 W hx0 hx1 (int_lo hw2) (int_hi hw2) (int_lo hw3) (int_hi hw3) hG.1 hG.2

set_option maxRecDepth 100000 in
theorem deriveBegins_lifted (os : Os) (started : os.Started) (H : Type) (enc : TypeId × Value → H) :
    ReturnsInHanded {} Tryd.checked os 5 .any (fun w args => (Rows.deriveBeginsSpec.pre enc Tryd.prog Tryd.f5 [] false w args ∧ laidMetH Tryd.prog deriveBeginsLaid w) ∧ sizedMet enc Tryd.prog Tryd.f5 (OpenSpec.ofChange Rows.deriveBeginsSpec) false w args)
      (Rows.deriveBeginsSpec.post enc Tryd.prog Tryd.f5 false true false false) :=
  law_lift_tied (G := deriveBeginsGlob) (C := Tryd.checked) (s := Rows.deriveBeginsSpec) deriveBeginsLaid law_own law_laid started (by kernel_rfl) Tryd.func5 rfl (by kernel_rfl) (by kernel_rfl) Tryd.underlying4
    (fun ds h => by
      match ds, h with
      | [_, _, _, _], _ => exact ⟨rfl, rfl, rfl⟩)
    (ChangeSpec.witness_shaped (enc := enc) (C := Tryd.checked) (os := os) (X := fun w _ => laidMetH Tryd.prog deriveBeginsLaid w) false (World.doorLaid Tryd.prog 400 os) #[.agg #[.int .u8 0, .int .u8 0, .int .u8 0, .int .u8 0, .int .u8 0, .int .u8 0, .int .u8 0, .int .u8 0, .int .u8 0, .int .u8 0, .int .u8 0, .int .u8 0, .int .u8 0, .int .u8 0, .int .u8 0, .int .u8 0, .int .u8 0, .int .u8 0, .int .u8 0, .int .u8 0, .int .u8 0, .int .u8 0, .int .u8 0, .int .u8 0, .int .u8 0, .int .u8 0, .int .u8 0, .int .u8 0, .int .u8 0, .int .u8 0, .int .u8 0, .int .u8 0], .slice none 0 0, .int .i64 0, .int .i64 0] 8 rfl (World.shaped_of_RefB (by kernel_rfl) (by kernel_rfl)) (by kernel_rfl) (by kernel_rfl) (by kernel_rfl) (deriveBegins_door os _))
    deriveBegins_glob (deriveBegins_walk enc)

theorem deriveBegins_holds : Rows.DeriveBeginsSaid :=
  OpenClaim.holds_of_wide 5 Tryd.f5 rfl rfl rfl rfl rfl rfl rfl ⟨rfl, rfl, rfl, rfl, rfl⟩ rfl rfl rfl rfl rfl (by kernel_rfl) Tryd.func5 (by kernel_rfl)
    (of_decide_eq_true (by kernel_rfl)) (by unfold Func.isWrapper; first | (rw [if_pos (by decide +kernel)]; kernel_rfl) | (rw [if_neg (by decide +kernel)]; exact ⟨rfl, rfl⟩))
    (fun os started H enc _ => deriveBegins_lifted os started H enc)

theorem deriveBegins_card : Rows.DeriveBeginsCardSaid :=
  Claim7.holds_tied_plain_at .later [] [.data, .data] true (true, "4a0baaeef2331e99db80be008057f76bba22a96d30b0428fb9d14adc79b3ce78") false
    deriveBegins_holds (fun _ h => by cases h) (by kernel_rfl) (fun _ h => by cases h) deriveBegins_row_tie rfl ⟨rfl, rfl⟩ (by kernel_rfl) rfl
    (fun f fn hf hfn => by
      obtain rfl : f = 5 := Option.some.inj ((show Tryd.prog.funcNamed "portcullis/portcullislaw8.DeriveBegins" = some 5 by kernel_rfl).symm.trans hf) |>.symm
      obtain rfl : fn = Tryd.f5 := (Option.some.inj (Tryd.func5.symm.trans hfn)).symm
      exact ⟨by kernel_rfl, fun j t ht => by
        rw [Tryd.params5] at ht
        have hm : t ∈ [25, 22, 3, 3] := by simpa using Array.mem_of_getElem? ht
        have hall : ([25, 22, 3, 3].all fun u => !Tryd.prog.wantsStandIn u) = true := by kernel_rfl
        exact (show Tryd.prog.wantsStandIn t = false by simpa using List.all_eq_true.1 hall t hm)⟩)
    (by kernel_rfl)

end Go.Proofs.YtcfmobgnlejpeaaDoor
