/- The claim itself. -/
import Derived.ProofKit
import Derived.LaidMore
import Derived.OpenShut
import Derived.Stop.Joined
import Derived.SevenTiedAt
import Derived.WalkKit
import Derived.Deep.Slices
import Derived.Laws.Cover2
import Derived.WalkSpells
import Derived.WalkLawsBesides
import Derived.Lib.Hide
import Derived.Deep.QuietTactic
import Derived.BigQuiet
import Derived.Deep.RegionHeld3
import Derived.Deep.AppendLies
import Derived.OneCell
import Derived.Deep.MidRow
import Derived.WalkMore
import Derived.Deep.CutRange
import Derived.Deep.RegionWith
import Derived.StillTailTactics
import Derived.Laws.ResultCell
import Derived.Deep.Quiet
import Derived.OrdersHeld
import Derived.Deep.RegionHeld
import Derived.ChangeKeysEq
import Derived.ScopeJumps
import Derived.Control
import Derived.KernelRfl
import Derived.Laws.Tables
import Derived.Great.BuildSlice
import Derived.Lib.Mul64
import Derived.Laws.Bits64b
import Derived.Laws.Externs
import Derived.Laws.Slices
import Derived.Laws.CopyOwn
import Derived.Laws.MakeOwn
import Derived.Lib.ConvBytes
import Derived.Laws.AppendOwn
import Derived.Laws.Entries
import Derived.Laws.OwnMore
import Derived.Deep.Onto
import Derived.Lib.AppendZeros
import Derived.Deep.LoopGhost
import Derived.Lib.SlBytesConst
import Derived.Test.YtimmnieopifcbaaDoorRows
import Derived.Test.YtimmnieopifcbaaDoorCards
import Derived.Test.YtimmnieopifcbaaDoorTie
import Derived.Test.YtimmnieopifcbaaDoorQz01
import Derived.Test.YtimmnieopifcbaaDoorQz02
import Derived.Test.YtimmnieopifcbaaDoorQz03
import Derived.Test.YtimmnieopifcbaaDoorQz04
import Derived.Test.YtimmnieopifcbaaDoorQz05
import Derived.Test.YtimmnieopifcbaaDoorQz06
import Derived.Test.YtimmnieopifcbaaDoorQz07
import Derived.Test.YtimmnieopifcbaaDoorQz08
namespace Go.Proofs.YtimmnieopifcbaaDoor
open Go.ChangeShapes Go.WideShapes Go.ChangeAt Go.WideMaps Go.WideElems Go.RowKit
set_option linter.unusedVariables false

def wrapNoneLaid : List (String × DataW Unit) := [("portcullis/sha.roots", Rows.laid_portcullis_sha_roots)]
theorem wrapNone_door (os : Os) (args : Array Value) : laidMetH Tryd.prog wrapNoneLaid ((World.doorLaid Tryd.prog 400 os).forCall (fun _ _ => 0) ⟨#[], args, []⟩).memory :=
  laidMetH_of_parts3 (fuel := 8) (laidMet_of_run' 8 (by kernel_rfl) (by kernel_rfl)) (by kernel_rfl) (by kernel_rfl)
def wrapNoneGlob : World → Prop := fun W => GlobR W
theorem wrapNone_glob (W : World) (h : laidMetH Tryd.prog wrapNoneLaid W) : wrapNoneGlob W := globR_of (by kernel_rfl) h (by simp [wrapNoneLaid])

set_option maxRecDepth 100000 in
theorem wrapNone_walk {H : Type} (enc : TypeId × Value → H) : LawWalkG wrapNoneGlob enc Tryd.prog 4 Tryd.f4.params.toList := by
  intro W base args ds ps hval hA hlt hfz hG
  rw [Tryd.params4] at hA hval
  obtain ⟨v0, v1, v2, v3, d0, d1, d2, d3, p0, p1, p2, p3, rfl, rfl, rfl, h0, h1, h2, h3⟩ := trodAll_four hA
  obtain ⟨x0, rfl, hx0⟩ := open_num Tryd.underlying23 Tryd.underlying5 (by kernel_rfl) (by kernel_rfl) (hval 0 23 v0 rfl rfl) h0
  obtain ⟨x1, rfl, hx1⟩ := open_num Tryd.underlying23 Tryd.underlying5 (by kernel_rfl) (by kernel_rfl) (hval 1 23 v1 rfl rfl) h1
  obtain ⟨x2, rfl, hx2⟩ := open_num Tryd.underlying23 Tryd.underlying5 (by kernel_rfl) (by kernel_rfl) (hval 2 23 v2 rfl rfl) h2
  obtain ⟨x3, hx3⟩ := open_bytes Tryd.underlying25 Tryd.underlying5 (by kernel_rfl) (hval 3 25 v3 rfl rfl) h3
  exact wrapNone_any x0 x1 x2 x3 v3 W hx0 hx1 hx2 hx3 hG

set_option maxRecDepth 100000 in
theorem wrapNone_lifted (os : Os) (started : os.Started) (H : Type) (enc : TypeId × Value → H) :
    ReturnsInHanded {} Tryd.checked os 4 .any (fun w args => (Rows.wrapNoneSpec.pre enc Tryd.prog Tryd.f4 [] false w args ∧ laidMetH Tryd.prog wrapNoneLaid w) ∧ sizedMet enc Tryd.prog Tryd.f4 (OpenSpec.ofChange Rows.wrapNoneSpec) false w args)
      (Rows.wrapNoneSpec.post enc Tryd.prog Tryd.f4 false true false false) :=
  law_lift_tied (G := wrapNoneGlob) (C := Tryd.checked) (s := Rows.wrapNoneSpec) wrapNoneLaid law_own law_laid started (by kernel_rfl) Tryd.func4 rfl (by kernel_rfl) (by kernel_rfl) Tryd.underlying4
    (fun ds h => by
      match ds, h with
      | [_, _, _, _], _ => exact ⟨rfl, rfl, rfl⟩)
    (ChangeSpec.witness_shaped (enc := enc) (C := Tryd.checked) (os := os) (X := fun w _ => laidMetH Tryd.prog wrapNoneLaid w) false (World.doorLaid Tryd.prog 400 os) #[.agg #[.int .u8 0, .int .u8 0, .int .u8 0, .int .u8 0, .int .u8 0, .int .u8 0, .int .u8 0, .int .u8 0, .int .u8 0, .int .u8 0, .int .u8 0, .int .u8 0, .int .u8 0, .int .u8 0, .int .u8 0, .int .u8 0, .int .u8 0, .int .u8 0, .int .u8 0, .int .u8 0, .int .u8 0, .int .u8 0, .int .u8 0, .int .u8 0, .int .u8 0, .int .u8 0, .int .u8 0, .int .u8 0, .int .u8 0, .int .u8 0, .int .u8 0, .int .u8 0], .agg #[.int .u8 0, .int .u8 0, .int .u8 0, .int .u8 0, .int .u8 0, .int .u8 0, .int .u8 0, .int .u8 0, .int .u8 0, .int .u8 0, .int .u8 0, .int .u8 0, .int .u8 0, .int .u8 0, .int .u8 0, .int .u8 0, .int .u8 0, .int .u8 0, .int .u8 0, .int .u8 0, .int .u8 0, .int .u8 0, .int .u8 0, .int .u8 0, .int .u8 0, .int .u8 0, .int .u8 0, .int .u8 0, .int .u8 0, .int .u8 0, .int .u8 0, .int .u8 0], .agg #[.int .u8 0, .int .u8 0, .int .u8 0, .int .u8 0, .int .u8 0, .int .u8 0, .int .u8 0, .int .u8 0, .int .u8 0, .int .u8 0, .int .u8 0, .int .u8 0, .int .u8 0, .int .u8 0, .int .u8 0, .int .u8 0, .int .u8 0, .int .u8 0, .int .u8 0, .int .u8 0, .int .u8 0, .int .u8 0, .int .u8 0, .int .u8 0, .int .u8 0, .int .u8 0, .int .u8 0, .int .u8 0, .int .u8 0, .int .u8 0, .int .u8 0, .int .u8 0], .slice none 0 0] 8 rfl (World.shaped_of_RefB (by kernel_rfl) (by kernel_rfl)) (by kernel_rfl) (by kernel_rfl) (by kernel_rfl) (wrapNone_door os _))
    wrapNone_glob (wrapNone_walk enc)

theorem wrapNone_holds : Rows.WrapNoneSaid :=
  OpenClaim.holds_of_wide 4 Tryd.f4 rfl rfl rfl rfl rfl rfl rfl ⟨rfl, rfl, rfl, rfl, rfl⟩ rfl rfl rfl rfl rfl (by kernel_rfl) Tryd.func4 (by kernel_rfl)
    (of_decide_eq_true (by kernel_rfl)) (by unfold Func.isWrapper; first | (rw [if_pos (by decide +kernel)]; kernel_rfl) | (rw [if_neg (by decide +kernel)]; exact ⟨rfl, rfl⟩))
    (fun os started H enc _ => wrapNone_lifted os started H enc)

theorem wrapNone_card : Rows.WrapNoneCardSaid :=
  Claim7.holds_tied_plain_at .later [] [.data] true (true, "a5a2cab35c151129ab486fff4590f8b9f48b97e56978ce36153d1bbd29dc3257") false
    wrapNone_holds (fun _ h => by cases h) (by kernel_rfl) (fun _ h => by cases h) wrapNone_row_tie rfl ⟨rfl, rfl⟩ (by kernel_rfl) rfl
    (fun f fn hf hfn => by
      obtain rfl : f = 4 := Option.some.inj ((show Tryd.prog.funcNamed "portcullis/portcullislaw14.WrapNone" = some 4 by kernel_rfl).symm.trans hf) |>.symm
      obtain rfl : fn = Tryd.f4 := (Option.some.inj (Tryd.func4.symm.trans hfn)).symm
      exact ⟨by kernel_rfl, fun j t ht => by
        rw [Tryd.params4] at ht
        have hm : t ∈ [23, 23, 23, 25] := by simpa using Array.mem_of_getElem? ht
        have hall : ([23, 23, 23, 25].all fun u => !Tryd.prog.wantsStandIn u) = true := by kernel_rfl
        exact (show Tryd.prog.wantsStandIn t = false by simpa using List.all_eq_true.1 hall t hm)⟩)
    (by kernel_rfl)

end Go.Proofs.YtimmnieopifcbaaDoor
