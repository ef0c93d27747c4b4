/- The claim itself. -/
import Derived.ProofKit
import Derived.LaidMore
import Derived.OpenShut
import Derived.Stop.Joined
import Derived.SevenTiedAt
import Derived.WalkKit
import Derived.Deep.Slices
import Derived.Laws.Cover2
import Derived.WalkSpells
import Derived.WalkLawsBesides
import Derived.Lib.Hide
import Derived.Deep.QuietTactic
import Derived.BigQuiet
import Derived.Deep.RegionHeld3
import Derived.Deep.AppendLies
import Derived.OneCell
import Derived.Deep.MidRow
import Derived.Laws.ResultCell
import Derived.Deep.Quiet
import Derived.OrdersHeld
import Derived.Deep.RegionHeld
import Derived.ChangeKeysEq
import Derived.KernelRfl
import Derived.Laws.Tables
import Derived.Great.BuildSlice
import Derived.Deep.CutRange
import Derived.Deep.RegionWith
import Derived.WalkMore
import Derived.StillTailTactics
import Derived.Laws.Entries
import Derived.ScopeJumps
import Derived.Control
import Derived.Lib.SlBytesConst
import Derived.Lib.AppendZeros
import Derived.Laws.CopyOwn
import Derived.Laws.Slices
import Derived.Lib.Mul64
import Derived.Laws.Bits64b
import Derived.Laws.Externs
import Derived.Laws.MakeOwn
import Derived.Test.YtckggbkoabmjiaaDoorRows
import Derived.Test.YtckggbkoabmjiaaDoorCards
import Derived.Test.YtckggbkoabmjiaaDoorTie
import Derived.Test.YtckggbkoabmjiaaDoorQz01
import Derived.Test.YtckggbkoabmjiaaDoorQz02
import Derived.Test.YtckggbkoabmjiaaDoorQz03
import Derived.Test.YtckggbkoabmjiaaDoorQz04
import Derived.Test.YtckggbkoabmjiaaDoorQz05
import Derived.Test.YtckggbkoabmjiaaDoorQz06
import Derived.Test.YtckggbkoabmjiaaDoorQz07
import Derived.Test.YtckggbkoabmjiaaDoorQz08
import Derived.Test.YtckggbkoabmjiaaDoorQz09
import Derived.Test.YtckggbkoabmjiaaDoorQz12
import Derived.Test.YtckggbkoabmjiaaDoorQz22
import Derived.Test.YtckggbkoabmjiaaDoorQz23
import Derived.Test.YtckggbkoabmjiaaDoorQz30
namespace Go.Proofs.YtckggbkoabmjiaaDoor
open Go.ChangeShapes Go.WideShapes Go.ChangeAt Go.WideMaps Go.WideElems Go.RowKit
set_option linter.unusedVariables false

def curvePointsLaid : List (String × DataW Unit) := [("portcullis/portcullisref3.rootOfMinusOne", Rows.laid_portcullis_portcullisref3_rootOfMinusOne), ("portcullis/portcullisref3.d", Rows.laid_portcullis_portcullisref3_d), ("portcullis/scalar.tail", Rows.laid_portcullis_scalar_tail), ("portcullis/shb.roots", Rows.laid_portcullis_shb_roots), ("portcullis/curve.d", Rows.laid_portcullis_curve_d)]
theorem curvePoints_door (os : Os) (args : Array Value) : laidMetH Tryd.prog curvePointsLaid ((World.doorLaid Tryd.prog 400 os).forCall (fun _ _ => 0) ⟨#[], args, []⟩).memory :=
  laidMetH_of_parts3 (fuel := 8) (laidMet_of_run' 8 (by kernel_rfl) (by kernel_rfl)) (by kernel_rfl) (by kernel_rfl)
def curvePointsGlob : World → Prop := fun W => GlobRQ W ∧ GlobT W ∧ GlobC W ∧ GlobD W ∧ Glob W
theorem curvePoints_glob (W : World) (h : laidMetH Tryd.prog curvePointsLaid W) : curvePointsGlob W := ⟨globR_ofQ (by kernel_rfl) h (by simp [curvePointsLaid]), globT_of (by kernel_rfl) h (by simp [curvePointsLaid]), globC_of (by kernel_rfl) h (by simp [curvePointsLaid]), globD_of (by kernel_rfl) h (by simp [curvePointsLaid]), globL_of (by kernel_rfl) h (by simp [curvePointsLaid])⟩

set_option maxRecDepth 100000 in
theorem curvePoints_walk {H : Type} (enc : TypeId × Value → H) : LawWalkG curvePointsGlob enc Tryd.prog 7 Tryd.f7.params.toList := by
  intro W base args ds ps hval hA hlt hfz hG
  rw [Tryd.params7] at hA hval
  obtain ⟨v0, v1, v2, d0, d1, d2, p0, p1, p2, rfl, rfl, rfl, h0, h1, h2⟩ := trodAll_three hA
  obtain ⟨x0, rfl⟩ := open_byte Tryd.underlying5 (hval 0 5 v0 rfl rfl) h0
  obtain ⟨x1, rfl, _⟩ := open_bool Tryd.underlying4 (hval 1 4 v1 rfl rfl) h1
  obtain ⟨x2, rfl, _⟩ := open_bool Tryd.underlying4 (hval 2 4 v2 rfl rfl) h2
  exact curvePoints_any x0 x1 x2 W hG.1 hG.2.1 hG.2.2.1 hG.2.2.2.1 hG.2.2.2.2

set_option maxRecDepth 100000 in
theorem curvePoints_lifted (os : Os) (started : os.Started) (H : Type) (enc : TypeId × Value → H) :
    ReturnsInHanded {} Tryd.checked os 7 .any (fun w args => (Rows.curvePointsSpec.pre enc Tryd.prog Tryd.f7 [] false w args ∧ laidMetH Tryd.prog curvePointsLaid w) ∧ sizedMet enc Tryd.prog Tryd.f7 (OpenSpec.ofChange Rows.curvePointsSpec) false w args)
      (Rows.curvePointsSpec.post enc Tryd.prog Tryd.f7 false true false false) :=
  law_lift_tied (G := curvePointsGlob) (C := Tryd.checked) (s := Rows.curvePointsSpec) curvePointsLaid law_own law_laid started (by kernel_rfl) Tryd.func7 rfl (by kernel_rfl) (by kernel_rfl) Tryd.underlying4
    (fun ds h => by
      match ds, h with
      | [_, _, _], _ => exact ⟨rfl, rfl, rfl⟩)
    (ChangeSpec.witness_shaped (enc := enc) (C := Tryd.checked) (os := os) (X := fun w _ => laidMetH Tryd.prog curvePointsLaid w) false (World.doorLaid Tryd.prog 400 os) #[.int .u8 0, .bool false, .bool false] 8 rfl (World.shaped_of_RefB (by kernel_rfl) (by kernel_rfl)) (by kernel_rfl) (by kernel_rfl) (by kernel_rfl) (curvePoints_door os _))
    curvePoints_glob (curvePoints_walk enc)

theorem curvePoints_holds : Rows.CurvePointsSaid :=
  OpenClaim.holds_of_wide 7 Tryd.f7 rfl rfl rfl rfl rfl rfl rfl ⟨rfl, rfl, rfl, rfl, rfl⟩ rfl rfl rfl rfl rfl (by kernel_rfl) Tryd.func7 (by kernel_rfl)
    (of_decide_eq_true (by kernel_rfl)) (by unfold Func.isWrapper; first | (rw [if_pos (by decide +kernel)]; kernel_rfl) | (rw [if_neg (by decide +kernel)]; exact ⟨rfl, rfl⟩))
    (fun os started H enc _ => curvePoints_lifted os started H enc)

theorem curvePoints_card : Rows.CurvePointsCardSaid :=
  Claim7.holds_tied_plain_at .later [] [.data, .data, .data, .data, .data] true (true, "61fdbcf794a9129560bc2492be0c73d4b36e2cbde2f25c76fc4499fd178b5b9b") false
    curvePoints_holds (fun _ h => by cases h) (by kernel_rfl) (fun _ h => by cases h) curvePoints_row_tie rfl ⟨rfl, rfl⟩ (by kernel_rfl) rfl
    (fun f fn hf hfn => by
      obtain rfl : f = 7 := Option.some.inj ((show Tryd.prog.funcNamed "portcullis/portcullislaw13.CurvePoints" = some 7 by kernel_rfl).symm.trans hf) |>.symm
      obtain rfl : fn = Tryd.f7 := (Option.some.inj (Tryd.func7.symm.trans hfn)).symm
      exact ⟨by kernel_rfl, fun j t ht => by
        rw [Tryd.params7] at ht
        have hm : t ∈ [5, 4, 4] := by simpa using Array.mem_of_getElem? ht
        have hall : ([5, 4, 4].all fun u => !Tryd.prog.wantsStandIn u) = true := by kernel_rfl
        exact (show Tryd.prog.wantsStandIn t = false by simpa using List.all_eq_true.1 hall t hm)⟩)
    (by kernel_rfl)

end Go.Proofs.YtckggbkoabmjiaaDoor
