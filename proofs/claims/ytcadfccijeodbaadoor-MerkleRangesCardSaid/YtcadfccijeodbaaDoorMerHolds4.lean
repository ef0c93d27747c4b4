/- The statement MerkleRanges holds, and its tied card: every call returns true and leaves its arguments as they were, where the listed variables read as they are listed; no other condition. -/
import Derived.Test.YtcadfccijeodbaaDoorAllR1
import Derived.Test.YtcadfccijeodbaaDoorFldOpen
import Derived.Test.YtcadfccijeodbaaDoorRows
import Derived.Test.YtcadfccijeodbaaDoorCards
import Derived.Test.YtcadfccijeodbaaDoorTie
import Derived.ProofKit
namespace Go.Proofs.YtcadfccijeodbaaDoor
open Go.ChangeShapes Go.WideShapes Go.ChangeAt Go.WideMaps Go.WideElems Go.RowKit
set_option linter.unusedVariables false

def merkleRangesLaid : List (String × DataW Unit) := [("portcullis/sha.roots", Rows.laid_portcullis_sha_roots)]
theorem merkleRanges_door (os : Os) (args : Array Value) : laidMetH Tryd.prog merkleRangesLaid ((World.doorLaid Tryd.prog 400 os).forCall (fun _ _ => 0) ⟨#[], args, []⟩).memory :=
  laidMetH_of_parts3 (fuel := 8) (laidMet_of_run' 8 (by kernel_rfl) (by kernel_rfl)) (by kernel_rfl) (by kernel_rfl)
def merkleRangesGlob : World → Prop := fun W => GlobR W
theorem merkleRanges_glob (W : World) (h : laidMetH Tryd.prog merkleRangesLaid W) : merkleRangesGlob W := globR_of (by kernel_rfl) h (by simp [merkleRangesLaid])

set_option maxRecDepth 100000 in
theorem merkleRanges_walk {H : Type} (enc : TypeId × Value → H) : LawWalkG merkleRangesGlob enc Tryd.prog 8 Tryd.f8.params.toList := by
  intro W base args ds ps hval hA hlt hfz hG
  rw [Tryd.params8] at hA hval
  obtain ⟨v0, v1, v2, v3, d0, d1, d2, d3, p0, p1, p2, p3, rfl, rfl, rfl, h0, h1, h2, h3⟩ := trodAll_four hA
  obtain ⟨x0, rfl, _, _, hw0⟩ := open_int Tryd.underlying3 (hval 0 3 v0 rfl rfl) h0
  obtain ⟨x1, rfl, _, _, hw1⟩ := open_int Tryd.underlying3 (hval 1 3 v1 rfl rfl) h1
  obtain ⟨x2, rfl, hx2⟩ := open_num Tryd.underlying26 Tryd.underlying5 (by kernel_rfl) (by kernel_rfl) (hval 2 26 v2 rfl rfl) h2
  obtain ⟨x3, hx3⟩ := open_nums Tryd.underlying28 Tryd.underlying26 Tryd.underlying5 (by kernel_rfl) (by kernel_rfl) (hval 3 28 v3 rfl rfl) h3
  exact merkleRanges_any x0 x1 x2 x3 v3 W (i64_lo hw0) (i64_hi hw0) (i64_lo hw1) (i64_hi hw1) hx2 hx3 hG

set_option maxRecDepth 100000 in
theorem merkleRanges_lifted (os : Os) (started : os.Started) (H : Type) (enc : TypeId × Value → H) :
    ReturnsInHanded {} Tryd.checked os 8 .any (fun w args => (Rows.merkleRangesSpec.pre enc Tryd.prog Tryd.f8 [] false w args ∧ laidMetH Tryd.prog merkleRangesLaid w) ∧ sizedMet enc Tryd.prog Tryd.f8 (OpenSpec.ofChange Rows.merkleRangesSpec) false w args)
      (Rows.merkleRangesSpec.post enc Tryd.prog Tryd.f8 false true false false) :=
  law_lift_tied (G := merkleRangesGlob) (C := Tryd.checked) (s := Rows.merkleRangesSpec) merkleRangesLaid law_own law_laid started (by kernel_rfl) Tryd.func8 rfl (by kernel_rfl) (by kernel_rfl) Tryd.underlying4
    (fun ds h => by
      match ds, h with
      | [_, _, _, _], _ => exact ⟨rfl, rfl, rfl⟩)
    (ChangeSpec.witness_shaped (enc := enc) (C := Tryd.checked) (os := os) (X := fun w _ => laidMetH Tryd.prog merkleRangesLaid w) false (World.doorLaid Tryd.prog 400 os) #[.int .i64 0, .int .i64 0, .agg #[.int .u8 0, .int .u8 0, .int .u8 0, .int .u8 0, .int .u8 0, .int .u8 0, .int .u8 0, .int .u8 0, .int .u8 0, .int .u8 0, .int .u8 0, .int .u8 0, .int .u8 0, .int .u8 0, .int .u8 0, .int .u8 0, .int .u8 0, .int .u8 0, .int .u8 0, .int .u8 0, .int .u8 0, .int .u8 0, .int .u8 0, .int .u8 0, .int .u8 0, .int .u8 0, .int .u8 0, .int .u8 0, .int .u8 0, .int .u8 0, .int .u8 0, .int .u8 0], .slice none 0 0] 8 rfl (World.shaped_of_RefB (by kernel_rfl) (by kernel_rfl)) (by kernel_rfl) (by kernel_rfl) (by kernel_rfl) (merkleRanges_door os _))
    merkleRanges_glob (merkleRanges_walk enc)

theorem merkleRanges_holds : Rows.MerkleRangesSaid :=
  OpenClaim.holds_of_wide 8 Tryd.f8 rfl rfl rfl rfl rfl rfl rfl ⟨rfl, rfl, rfl, rfl, rfl⟩ rfl rfl rfl rfl rfl (by kernel_rfl) Tryd.func8 (by kernel_rfl)
    (of_decide_eq_true (by kernel_rfl)) (by unfold Func.isWrapper; first | (rw [if_pos (by decide +kernel)]; kernel_rfl) | (rw [if_neg (by decide +kernel)]; exact ⟨rfl, rfl⟩))
    (fun os started H enc _ => merkleRanges_lifted os started H enc)

theorem merkleRanges_card : Rows.MerkleRangesCardSaid :=
  Claim7.holds_tied_plain_at .later [] [.data] true (true, "caa61ed2226f45323db04e373ae89bcc99ea7871ab2e0bce4a4ee8d7e8ef9618") false
    merkleRanges_holds (fun _ h => by cases h) (by kernel_rfl) (fun _ h => by cases h) merkleRanges_row_tie rfl ⟨rfl, rfl⟩ (by kernel_rfl) rfl
    (fun f fn hf hfn => by
      obtain rfl : f = 8 := Option.some.inj ((show Tryd.prog.funcNamed "portcullis/portcullislaw15.MerkleRanges" = some 8 by kernel_rfl).symm.trans hf) |>.symm
      obtain rfl : fn = Tryd.f8 := (Option.some.inj (Tryd.func8.symm.trans hfn)).symm
      exact ⟨by kernel_rfl, fun j t ht => by
        rw [Tryd.params8] at ht
        have hm : t ∈ [3, 3, 26, 28] := by simpa using Array.mem_of_getElem? ht
        have hall : ([3, 3, 26, 28].all fun u => !Tryd.prog.wantsStandIn u) = true := by kernel_rfl
        exact (show Tryd.prog.wantsStandIn t = false by simpa using List.all_eq_true.1 hall t hm)⟩)
    (by kernel_rfl)

end Go.Proofs.YtcadfccijeodbaaDoor
