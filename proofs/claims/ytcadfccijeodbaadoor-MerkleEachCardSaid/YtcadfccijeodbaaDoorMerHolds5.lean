/- The statement MerkleEach holds, and its tied card: every call returns true and leaves its arguments as they were, where the listed variables read as they are listed; no other condition. -/
import Derived.Test.YtcadfccijeodbaaDoorAllR1
import Derived.Test.YtcadfccijeodbaaDoorFldOpen
import Derived.Test.YtcadfccijeodbaaDoorRows
import Derived.Test.YtcadfccijeodbaaDoorCards
import Derived.Test.YtcadfccijeodbaaDoorTie
import Derived.ProofKit
namespace Go.Proofs.YtcadfccijeodbaaDoor
open Go.ChangeShapes Go.WideShapes Go.ChangeAt Go.WideMaps Go.WideElems Go.RowKit
set_option linter.unusedVariables false

def merkleEachLaid : List (String × DataW Unit) := [("portcullis/sha.roots", Rows.laid_portcullis_sha_roots)]
theorem merkleEach_door (os : Os) (args : Array Value) : laidMetH Tryd.prog merkleEachLaid ((World.doorLaid Tryd.prog 400 os).forCall (fun _ _ => 0) ⟨#[], args, []⟩).memory :=
  laidMetH_of_parts3 (fuel := 8) (laidMet_of_run' 8 (by kernel_rfl) (by kernel_rfl)) (by kernel_rfl) (by kernel_rfl)
def merkleEachGlob : World → Prop := fun W => GlobR W
theorem merkleEach_glob (W : World) (h : laidMetH Tryd.prog merkleEachLaid W) : merkleEachGlob W := globR_of (by kernel_rfl) h (by simp [merkleEachLaid])

set_option maxRecDepth 100000 in
theorem merkleEach_walk {H : Type} (enc : TypeId × Value → H) : LawWalkG merkleEachGlob enc Tryd.prog 6 Tryd.f6.params.toList := by
  intro W base args ds ps hval hA hlt hfz hG
  rw [Tryd.params6] at hA hval
  obtain ⟨v0, v1, d0, d1, p0, p1, rfl, rfl, rfl, h0, h1⟩ := trodAll_two hA
  obtain ⟨x0, rfl, _, _, hw0⟩ := open_int Tryd.underlying3 (hval 0 3 v0 rfl rfl) h0
  obtain ⟨x1, rfl⟩ := open_byte Tryd.underlying5 (hval 1 5 v1 rfl rfl) h1
  exact merkleEach_any x0 x1 W (i64_lo hw0) (i64_hi hw0) hG

set_option maxRecDepth 100000 in
theorem merkleEach_lifted (os : Os) (started : os.Started) (H : Type) (enc : TypeId × Value → H) :
    ReturnsInHanded {} Tryd.checked os 6 .any (fun w args => (Rows.merkleEachSpec.pre enc Tryd.prog Tryd.f6 [] false w args ∧ laidMetH Tryd.prog merkleEachLaid w) ∧ sizedMet enc Tryd.prog Tryd.f6 (OpenSpec.ofChange Rows.merkleEachSpec) false w args)
      (Rows.merkleEachSpec.post enc Tryd.prog Tryd.f6 false true false false) :=
  law_lift_tied (G := merkleEachGlob) (C := Tryd.checked) (s := Rows.merkleEachSpec) merkleEachLaid law_own law_laid started (by kernel_rfl) Tryd.func6 rfl (by kernel_rfl) (by kernel_rfl) Tryd.underlying4
    (fun ds h => by
      match ds, h with
      | [_, _], _ => exact ⟨rfl, rfl, rfl⟩)
    (ChangeSpec.witness_shaped (enc := enc) (C := Tryd.checked) (os := os) (X := fun w _ => laidMetH Tryd.prog merkleEachLaid w) false (World.doorLaid Tryd.prog 400 os) #[.int .i64 0, .int .u8 0] 8 rfl (World.shaped_of_RefB (by kernel_rfl) (by kernel_rfl)) (by kernel_rfl) (by kernel_rfl) (by kernel_rfl) (merkleEach_door os _))
    merkleEach_glob (merkleEach_walk enc)

theorem merkleEach_holds : Rows.MerkleEachSaid :=
  OpenClaim.holds_of_wide 6 Tryd.f6 rfl rfl rfl rfl rfl rfl rfl ⟨rfl, rfl, rfl, rfl, rfl⟩ rfl rfl rfl rfl rfl (by kernel_rfl) Tryd.func6 (by kernel_rfl)
    (of_decide_eq_true (by kernel_rfl)) (by unfold Func.isWrapper; first | (rw [if_pos (by decide +kernel)]; kernel_rfl) | (rw [if_neg (by decide +kernel)]; exact ⟨rfl, rfl⟩))
    (fun os started H enc _ => merkleEach_lifted os started H enc)

theorem merkleEach_card : Rows.MerkleEachCardSaid :=
  Claim7.holds_tied_plain_at .later [] [.data] true (true, "caa61ed2226f45323db04e373ae89bcc99ea7871ab2e0bce4a4ee8d7e8ef9618") false
    merkleEach_holds (fun _ h => by cases h) (by kernel_rfl) (fun _ h => by cases h) merkleEach_row_tie rfl ⟨rfl, rfl⟩ (by kernel_rfl) rfl
    (fun f fn hf hfn => by
      obtain rfl : f = 6 := Option.some.inj ((show Tryd.prog.funcNamed "portcullis/portcullislaw15.MerkleEach" = some 6 by kernel_rfl).symm.trans hf) |>.symm
      obtain rfl : fn = Tryd.f6 := (Option.some.inj (Tryd.func6.symm.trans hfn)).symm
      exact ⟨by kernel_rfl, fun j t ht => by
        rw [Tryd.params6] at ht
        have hm : t ∈ [3, 5] := by simpa using Array.mem_of_getElem? ht
        have hall : ([3, 5].all fun u => !Tryd.prog.wantsStandIn u) = true := by kernel_rfl
        exact (show Tryd.prog.wantsStandIn t = false by simpa using List.all_eq_true.1 hall t hm)⟩)
    (by kernel_rfl)

end Go.Proofs.YtcadfccijeodbaaDoor
