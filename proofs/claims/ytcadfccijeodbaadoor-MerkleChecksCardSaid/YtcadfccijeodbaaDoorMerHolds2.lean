/- The statement MerkleChecks holds, and its tied card: every call returns true and leaves its arguments as they were, where the listed variables read as they are listed; no other condition. -/
import Derived.Test.YtcadfccijeodbaaDoorAll1
import Derived.Test.YtcadfccijeodbaaDoorRows
import Derived.Test.YtcadfccijeodbaaDoorCards
import Derived.Test.YtcadfccijeodbaaDoorTie
import Derived.ProofKit
import Derived.Test.YtcadfccijeodbaaDoorAll2
import Derived.Test.YtcadfccijeodbaaDoorAll3
namespace Go.Proofs.YtcadfccijeodbaaDoor
open Go.ChangeShapes Go.WideShapes Go.ChangeAt Go.WideMaps Go.WideElems Go.RowKit
set_option linter.unusedVariables false

def merkleChecksLaid : List (String × DataW Unit) := [("portcullis/portcullisref1.k256", Rows.laid_portcullis_portcullisref1_k256), ("portcullis/sha.roots", Rows.laid_portcullis_sha_roots)]
theorem merkleChecks_door (os : Os) (args : Array Value) : laidMetH Tryd.prog merkleChecksLaid ((World.doorLaid Tryd.prog 400 os).forCall (fun _ _ => 0) ⟨#[], args, []⟩).memory :=
  laidMetH_of_parts3 (fuel := 8) (laidMet_of_run' 8 (by kernel_rfl) (by kernel_rfl)) (by kernel_rfl) (by kernel_rfl)
def merkleChecksGlob : World → Prop := fun W => GlobR W ∧ GlobK W
theorem merkleChecks_glob (W : World) (h : laidMetH Tryd.prog merkleChecksLaid W) : merkleChecksGlob W := ⟨globR_of (by kernel_rfl) h (by simp [merkleChecksLaid]), globK_of (by kernel_rfl) h (by simp [merkleChecksLaid])⟩

set_option maxRecDepth 100000 in
theorem merkleChecks_walk {H : Type} (enc : TypeId × Value → H) : LawWalkG merkleChecksGlob enc Tryd.prog 4 Tryd.f4.params.toList := by
  intro W base args ds ps hval hA hlt hfz hG
  rw [Tryd.params4] at hA hval
  obtain ⟨v0, v1, v2, v3, v4, d0, d1, d2, d3, d4, p0, p1, p2, p3, p4, rfl, rfl, rfl, h0, h1, h2, h3, h4⟩ := trodAll_five hA
  obtain ⟨x0, rfl, hx0⟩ := open_num Tryd.underlying26 Tryd.underlying5 (by kernel_rfl) (by kernel_rfl) (hval 0 26 v0 rfl rfl) h0
  obtain ⟨x1, rfl, _, _, hw1⟩ := open_int Tryd.underlying3 (hval 1 3 v1 rfl rfl) h1
  obtain ⟨x2, rfl, _, _, hw2⟩ := open_int Tryd.underlying3 (hval 2 3 v2 rfl rfl) h2
  obtain ⟨x3, hx3⟩ := open_bytes Tryd.underlying34 Tryd.underlying5 (by kernel_rfl) (hval 3 34 v3 rfl rfl) h3
  obtain ⟨x4, hx4⟩ := open_nums Tryd.underlying28 Tryd.underlying26 Tryd.underlying5 (by kernel_rfl) (by kernel_rfl) (hval 4 28 v4 rfl rfl) h4
  exact merkleChecks_any x0 x1 x2 x3 x4 v3 v4 W hx0 (i64_lo hw1) (i64_hi hw1) (i64_lo hw2) (i64_hi hw2) hx3 hx4 hG.1 hG.2

set_option maxRecDepth 100000 in
theorem merkleChecks_lifted (os : Os) (started : os.Started) (H : Type) (enc : TypeId × Value → H) :
    ReturnsInHanded {} Tryd.checked os 4 .any (fun w args => (Rows.merkleChecksSpec.pre enc Tryd.prog Tryd.f4 [] false w args ∧ laidMetH Tryd.prog merkleChecksLaid w) ∧ sizedMet enc Tryd.prog Tryd.f4 (OpenSpec.ofChange Rows.merkleChecksSpec) false w args)
      (Rows.merkleChecksSpec.post enc Tryd.prog Tryd.f4 false true false false) :=
  law_lift_tied (G := merkleChecksGlob) (C := Tryd.checked) (s := Rows.merkleChecksSpec) merkleChecksLaid law_own law_laid started (by kernel_rfl) Tryd.func4 rfl (by kernel_rfl) (by kernel_rfl) Tryd.underlying4
    (fun ds h => by
      match ds, h with
      | [_, _, _, _, _], _ => exact ⟨rfl, rfl, rfl⟩)
    (ChangeSpec.witness_shaped (enc := enc) (C := Tryd.checked) (os := os) (X := fun w _ => laidMetH Tryd.prog merkleChecksLaid w) false (World.doorLaid Tryd.prog 400 os) #[.agg #[.int .u8 0, .int .u8 0, .int .u8 0, .int .u8 0, .int .u8 0, .int .u8 0, .int .u8 0, .int .u8 0, .int .u8 0, .int .u8 0, .int .u8 0, .int .u8 0, .int .u8 0, .int .u8 0, .int .u8 0, .int .u8 0, .int .u8 0, .int .u8 0, .int .u8 0, .int .u8 0, .int .u8 0, .int .u8 0, .int .u8 0, .int .u8 0, .int .u8 0, .int .u8 0, .int .u8 0, .int .u8 0, .int .u8 0, .int .u8 0, .int .u8 0, .int .u8 0], .int .i64 0, .int .i64 0, .slice none 0 0, .slice none 0 0] 8 rfl (World.shaped_of_RefB (by kernel_rfl) (by kernel_rfl)) (by kernel_rfl) (by kernel_rfl) (by kernel_rfl) (merkleChecks_door os _))
    merkleChecks_glob (merkleChecks_walk enc)

theorem merkleChecks_holds : Rows.MerkleChecksSaid :=
  OpenClaim.holds_of_wide 4 Tryd.f4 rfl rfl rfl rfl rfl rfl rfl ⟨rfl, rfl, rfl, rfl, rfl⟩ rfl rfl rfl rfl rfl (by kernel_rfl) Tryd.func4 (by kernel_rfl)
    (of_decide_eq_true (by kernel_rfl)) (by unfold Func.isWrapper; first | (rw [if_pos (by decide +kernel)]; kernel_rfl) | (rw [if_neg (by decide +kernel)]; exact ⟨rfl, rfl⟩))
    (fun os started H enc _ => merkleChecks_lifted os started H enc)

theorem merkleChecks_card : Rows.MerkleChecksCardSaid :=
  Claim7.holds_tied_plain_at .later [] [.data, .data] true (true, "caa61ed2226f45323db04e373ae89bcc99ea7871ab2e0bce4a4ee8d7e8ef9618") false
    merkleChecks_holds (fun _ h => by cases h) (by kernel_rfl) (fun _ h => by cases h) merkleChecks_row_tie rfl ⟨rfl, rfl⟩ (by kernel_rfl) rfl
    (fun f fn hf hfn => by
      obtain rfl : f = 4 := Option.some.inj ((show Tryd.prog.funcNamed "portcullis/portcullislaw15.MerkleChecks" = some 4 by kernel_rfl).symm.trans hf) |>.symm
      obtain rfl : fn = Tryd.f4 := (Option.some.inj (Tryd.func4.symm.trans hfn)).symm
      exact ⟨by kernel_rfl, fun j t ht => by
        rw [Tryd.params4] at ht
        have hm : t ∈ [26, 3, 3, 34, 28] := by simpa using Array.mem_of_getElem? ht
        have hall : ([26, 3, 3, 34, 28].all fun u => !Tryd.prog.wantsStandIn u) = true := by kernel_rfl
        exact (show Tryd.prog.wantsStandIn t = false by simpa using List.all_eq_true.1 hall t hm)⟩)
    (by kernel_rfl)

end Go.Proofs.YtcadfccijeodbaaDoor
