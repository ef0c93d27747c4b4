/- The statement MacKeys holds, and its tied card: every call returns true and leaves its arguments as they were, where the listed variables read as they are listed; no other condition. -/
import Derived.Test.YtoojcicbeclnhaaDoorAll1
import Derived.Test.YtoojcicbeclnhaaDoorRows
import Derived.Test.YtoojcicbeclnhaaDoorCards
import Derived.Test.YtoojcicbeclnhaaDoorTie
import Derived.ProofKit
import Derived.Test.YtoojcicbeclnhaaDoorAll2
import Derived.Test.YtoojcicbeclnhaaDoorAll3
namespace Go.Proofs.YtoojcicbeclnhaaDoor
open Go.ChangeShapes Go.WideShapes Go.ChangeAt Go.WideMaps Go.WideElems Go.RowKit
set_option linter.unusedVariables false

def macKeysLaid : List (String × DataW Unit) := [("portcullis/portcullisref1.k256", Rows.laid_portcullis_portcullisref1_k256), ("portcullis/sha.roots", Rows.laid_portcullis_sha_roots)]
theorem macKeys_door (os : Os) (args : Array Value) : laidMetH Tryd.prog macKeysLaid ((World.doorLaid Tryd.prog 400 os).forCall (fun _ _ => 0) ⟨#[], args, []⟩).memory :=
  laidMetH_of_parts3 (fuel := 8) (laidMet_of_run' 8 (by kernel_rfl) (by kernel_rfl)) (by kernel_rfl) (by kernel_rfl)
def macKeysGlob : World → Prop := fun W => GlobR W ∧ GlobK W
theorem macKeys_glob (W : World) (h : laidMetH Tryd.prog macKeysLaid W) : macKeysGlob W := ⟨globR_of (by kernel_rfl) h (by simp [macKeysLaid]), globK_of (by kernel_rfl) h (by simp [macKeysLaid])⟩

theorem macKeys_walk {H : Type} (enc : TypeId × Value → H) : LawWalkG macKeysGlob enc Tryd.prog 4 Tryd.f4.params.toList := by
  intro W base args ds ps hval hA hlt hfz hG
  rw [Tryd.params4] at hA hval
  obtain ⟨v0, v1, v2, d0, d1, d2, p0, p1, p2, rfl, rfl, rfl, h0, h1, h2⟩ := trodAll_three hA
  obtain ⟨x0, hx0⟩ := open_bytes Tryd.underlying22 Tryd.underlying5 (by kernel_rfl) (hval 0 22 v0 rfl rfl) h0
  obtain ⟨x1, rfl, _, _, hw1⟩ := open_int Tryd.underlying3 (hval 1 3 v1 rfl rfl) h1
  obtain ⟨x2, hx2⟩ := open_bytes Tryd.underlying22 Tryd.underlying5 (by kernel_rfl) (hval 2 22 v2 rfl rfl) h2
  exact macKeys_any v0 v2 x0 x2 x1 W hx0 hx2 (int_lo hw1) (int_hi hw1) hG.1 hG.2

set_option maxRecDepth 100000 in
theorem macKeys_lifted (os : Os) (started : os.Started) (H : Type) (enc : TypeId × Value → H) :
    ReturnsInHanded {} Tryd.checked os 4 .any (fun w args => (Rows.macKeysSpec.pre enc Tryd.prog Tryd.f4 [] false w args ∧ laidMetH Tryd.prog macKeysLaid w) ∧ sizedMet enc Tryd.prog Tryd.f4 (OpenSpec.ofChange Rows.macKeysSpec) false w args)
      (Rows.macKeysSpec.post enc Tryd.prog Tryd.f4 false true false false) :=
  law_lift_tied (G := macKeysGlob) (C := Tryd.checked) (s := Rows.macKeysSpec) macKeysLaid law_own law_laid started (by kernel_rfl) Tryd.func4 rfl (by kernel_rfl) (by kernel_rfl) Tryd.underlying4
    (fun ds h => by
      match ds, h with
      | [_, _, _], _ => exact ⟨rfl, rfl, rfl⟩)
    (ChangeSpec.witness_shaped (enc := enc) (C := Tryd.checked) (os := os) (X := fun w _ => laidMetH Tryd.prog macKeysLaid w) false (World.doorLaid Tryd.prog 400 os) #[.slice none 0 0, .int .i64 0, .slice none 0 0] 8 rfl (World.shaped_of_RefB (by kernel_rfl) (by kernel_rfl)) (by kernel_rfl) (by kernel_rfl) (by kernel_rfl) (macKeys_door os _))
    macKeys_glob (macKeys_walk enc)

theorem macKeys_holds : Rows.MacKeysSaid :=
  OpenClaim.holds_of_wide 4 Tryd.f4 rfl rfl rfl rfl rfl rfl rfl ⟨rfl, rfl, rfl, rfl, rfl⟩ rfl rfl rfl rfl rfl (by kernel_rfl) Tryd.func4 (by kernel_rfl)
    (of_decide_eq_true (by kernel_rfl)) (by unfold Func.isWrapper; first | (rw [if_pos (by decide +kernel)]; kernel_rfl) | (rw [if_neg (by decide +kernel)]; exact ⟨rfl, rfl⟩))
    (fun os started H enc _ => macKeys_lifted os started H enc)

theorem macKeys_card : Rows.MacKeysCardSaid :=
  Claim7.holds_tied_plain_at .later [] [.data, .data] true (true, "c6bdef478c74f7511f876a004239f639d690a9cfde7297ad9a891ad6ba7163b0") false
    macKeys_holds (fun _ h => by cases h) (by kernel_rfl) (fun _ h => by cases h) macKeys_row_tie rfl ⟨rfl, rfl⟩ (by kernel_rfl) rfl
    (fun f fn hf hfn => by
      obtain rfl : f = 4 := Option.some.inj ((show Tryd.prog.funcNamed "portcullis/portcullislaw7.MacKeys" = some 4 by kernel_rfl).symm.trans hf) |>.symm
      obtain rfl : fn = Tryd.f4 := (Option.some.inj (Tryd.func4.symm.trans hfn)).symm
      exact ⟨by kernel_rfl, fun j t ht => by
        rw [Tryd.params4] at ht
        have hm : t ∈ [22, 3, 22] := by simpa using Array.mem_of_getElem? ht
        have hall : ([22, 3, 22].all fun u => !Tryd.prog.wantsStandIn u) = true := by kernel_rfl
        exact (show Tryd.prog.wantsStandIn t = false by simpa using List.all_eq_true.1 hall t hm)⟩)
    (by kernel_rfl)

end Go.Proofs.YtoojcicbeclnhaaDoor
