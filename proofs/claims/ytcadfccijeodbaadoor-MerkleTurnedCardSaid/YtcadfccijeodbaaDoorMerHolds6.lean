/- The statement MerkleTurned holds, and its tied card: every call returns true and leaves its arguments as they were, where the listed variables read as they are listed; no other condition. -/
import Derived.Test.YtcadfccijeodbaaDoorAllR1
import Derived.Test.YtcadfccijeodbaaDoorFldOpen
import Derived.Test.YtcadfccijeodbaaDoorRows
import Derived.Test.YtcadfccijeodbaaDoorCards
import Derived.Test.YtcadfccijeodbaaDoorTie
import Derived.ProofKit
namespace Go.Proofs.YtcadfccijeodbaaDoor
open Go.ChangeShapes Go.WideShapes Go.ChangeAt Go.WideMaps Go.WideElems Go.RowKit
set_option linter.unusedVariables false

def merkleTurnedLaid : List (String × DataW Unit) := [("portcullis/portcullisref1.k256", Rows.laid_portcullis_portcullisref1_k256), ("portcullis/sha.roots", Rows.laid_portcullis_sha_roots)]
theorem merkleTurned_door (os : Os) (args : Array Value) : laidMetH Tryd.prog merkleTurnedLaid ((World.doorLaid Tryd.prog 400 os).forCall (fun _ _ => 0) ⟨#[], args, []⟩).memory :=
  laidMetH_of_parts3 (fuel := 8) (laidMet_of_run' 8 (by kernel_rfl) (by kernel_rfl)) (by kernel_rfl) (by kernel_rfl)
def merkleTurnedGlob : World → Prop := fun W => GlobR W ∧ GlobK W
theorem merkleTurned_glob (W : World) (h : laidMetH Tryd.prog merkleTurnedLaid W) : merkleTurnedGlob W := ⟨globR_of (by kernel_rfl) h (by simp [merkleTurnedLaid]), globK_of (by kernel_rfl) h (by simp [merkleTurnedLaid])⟩

set_option maxRecDepth 100000 in
theorem merkleTurned_walk {H : Type} (enc : TypeId × Value → H) : LawWalkG merkleTurnedGlob enc Tryd.prog 5 Tryd.f5.params.toList := by
  intro W base args ds ps hval hA hlt hfz hG
  rw [Tryd.params5] at hA hval
  obtain ⟨v0, v1, v2, v3, v4, d0, d1, d2, d3, d4, p0, p1, p2, p3, p4, rfl, rfl, rfl, h0, h1, h2, h3, h4⟩ := trodAll_five hA
  obtain ⟨x0, hx0⟩ := open_bytes2 Tryd.underlying22 Tryd.underlying34 Tryd.underlying5 (by kernel_rfl) (by kernel_rfl) (hval 0 22 v0 rfl rfl) h0
  obtain ⟨x1, rfl, _, _, hw1⟩ := open_int Tryd.underlying3 (hval 1 3 v1 rfl rfl) h1
  obtain ⟨x2, rfl, _, _, hw2⟩ := open_int Tryd.underlying3 (hval 2 3 v2 rfl rfl) h2
  obtain ⟨x3, rfl, _, _, hw3⟩ := open_int Tryd.underlying3 (hval 3 3 v3 rfl rfl) h3
  obtain ⟨x4, rfl⟩ := open_byte Tryd.underlying5 (hval 4 5 v4 rfl rfl) h4
  exact merkleTurned_any x0 x1 x2 x3 x4 v0 W hx0 (i64_lo hw1) (i64_hi hw1) (i64_lo hw2) (i64_hi hw2) (i64_lo hw3) (i64_hi hw3) hG.1 hG.2

set_option maxRecDepth 100000 in
theorem merkleTurned_lifted (os : Os) (started : os.Started) (H : Type) (enc : TypeId × Value → H) :
    ReturnsInHanded {} Tryd.checked os 5 .any (fun w args => (Rows.merkleTurnedSpec.pre enc Tryd.prog Tryd.f5 [] false w args ∧ laidMetH Tryd.prog merkleTurnedLaid w) ∧ sizedMet enc Tryd.prog Tryd.f5 (OpenSpec.ofChange Rows.merkleTurnedSpec) false w args)
      (Rows.merkleTurnedSpec.post enc Tryd.prog Tryd.f5 false true false false) :=
  law_lift_tied (G := merkleTurnedGlob) (C := Tryd.checked) (s := Rows.merkleTurnedSpec) merkleTurnedLaid law_own law_laid started (by kernel_rfl) Tryd.func5 rfl (by kernel_rfl) (by kernel_rfl) Tryd.underlying4
    (fun ds h => by
      match ds, h with
      | [_, _, _, _, _], _ => exact ⟨rfl, rfl, rfl⟩)
    (ChangeSpec.witness_shaped (enc := enc) (C := Tryd.checked) (os := os) (X := fun w _ => laidMetH Tryd.prog merkleTurnedLaid w) false (World.doorLaid Tryd.prog 400 os) #[.slice none 0 0, .int .i64 0, .int .i64 0, .int .i64 0, .int .u8 0] 8 rfl (World.shaped_of_RefB (by kernel_rfl) (by kernel_rfl)) (by kernel_rfl) (by kernel_rfl) (by kernel_rfl) (merkleTurned_door os _))
    merkleTurned_glob (merkleTurned_walk enc)

theorem merkleTurned_holds : Rows.MerkleTurnedSaid :=
  OpenClaim.holds_of_wide 5 Tryd.f5 rfl rfl rfl rfl rfl rfl rfl ⟨rfl, rfl, rfl, rfl, rfl⟩ rfl rfl rfl rfl rfl (by kernel_rfl) Tryd.func5 (by kernel_rfl)
    (of_decide_eq_true (by kernel_rfl)) (by unfold Func.isWrapper; first | (rw [if_pos (by decide +kernel)]; kernel_rfl) | (rw [if_neg (by decide +kernel)]; exact ⟨rfl, rfl⟩))
    (fun os started H enc _ => merkleTurned_lifted os started H enc)

theorem merkleTurned_card : Rows.MerkleTurnedCardSaid :=
  Claim7.holds_tied_plain_at .later [] [.data, .data] true (true, "caa61ed2226f45323db04e373ae89bcc99ea7871ab2e0bce4a4ee8d7e8ef9618") false
    merkleTurned_holds (fun _ h => by cases h) (by kernel_rfl) (fun _ h => by cases h) merkleTurned_row_tie rfl ⟨rfl, rfl⟩ (by kernel_rfl) rfl
    (fun f fn hf hfn => by
      obtain rfl : f = 5 := Option.some.inj ((show Tryd.prog.funcNamed "portcullis/portcullislaw15.MerkleTurned" = some 5 by kernel_rfl).symm.trans hf) |>.symm
      obtain rfl : fn = Tryd.f5 := (Option.some.inj (Tryd.func5.symm.trans hfn)).symm
      exact ⟨by kernel_rfl, fun j t ht => by
        rw [Tryd.params5] at ht
        have hm : t ∈ [22, 3, 3, 3, 5] := by simpa using Array.mem_of_getElem? ht
        have hall : ([22, 3, 3, 3, 5].all fun u => !Tryd.prog.wantsStandIn u) = true := by kernel_rfl
        exact (show Tryd.prog.wantsStandIn t = false by simpa using List.all_eq_true.1 hall t hm)⟩)
    (by kernel_rfl)

end Go.Proofs.YtcadfccijeodbaaDoor
