/- The claim itself. -/
import Derived.ProofKit
import Derived.LaidMore
import Derived.OpenShut
import Derived.Stop.Joined
import Derived.SevenTiedAt
import Derived.WalkKit
import Derived.Deep.Slices
import Derived.Laws.Cover2
import Derived.WalkSpells
import Derived.WalkLawsBesides
import Derived.Lib.Hide
import Derived.Deep.QuietTactic
import Derived.BigQuiet
import Derived.Deep.RegionHeld3
import Derived.Deep.AppendLies
import Derived.OneCell
import Derived.Deep.MidRow
import Derived.Laws.ResultCell
import Derived.Deep.Quiet
import Derived.OrdersHeld
import Derived.Deep.RegionHeld
import Derived.ChangeKeysEq
import Derived.KernelRfl
import Derived.Laws.Tables
import Derived.Great.BuildSlice
import Derived.Deep.CutRange
import Derived.Deep.RegionWith
import Derived.WalkMore
import Derived.StillTailTactics
import Derived.Laws.Entries
import Derived.ScopeJumps
import Derived.Control
import Derived.Lib.SlBytesConst
import Derived.Lib.AppendZeros
import Derived.Laws.CopyOwn
import Derived.Laws.Slices
import Derived.Lib.Mul64
import Derived.Laws.Bits64b
import Derived.Laws.Externs
import Derived.Laws.MakeOwn
import Derived.Test.YtckggbkoabmjiaaDoorRows
import Derived.Test.YtckggbkoabmjiaaDoorCards
import Derived.Test.YtckggbkoabmjiaaDoorTie
import Derived.Test.YtckggbkoabmjiaaDoorQz01
import Derived.Test.YtckggbkoabmjiaaDoorQz02
import Derived.Test.YtckggbkoabmjiaaDoorQz03
import Derived.Test.YtckggbkoabmjiaaDoorQz04
import Derived.Test.YtckggbkoabmjiaaDoorQz05
import Derived.Test.YtckggbkoabmjiaaDoorQz06
import Derived.Test.YtckggbkoabmjiaaDoorQz07
import Derived.Test.YtckggbkoabmjiaaDoorQz08
import Derived.Test.YtckggbkoabmjiaaDoorQz09
import Derived.Test.YtckggbkoabmjiaaDoorQz10
import Derived.Test.YtckggbkoabmjiaaDoorQz11
import Derived.Test.YtckggbkoabmjiaaDoorQz12
import Derived.Test.YtckggbkoabmjiaaDoorQz13
import Derived.Test.YtckggbkoabmjiaaDoorQz14
import Derived.Test.YtckggbkoabmjiaaDoorQz15
import Derived.Test.YtckggbkoabmjiaaDoorQz16
import Derived.Test.YtckggbkoabmjiaaDoorQz17
import Derived.Test.YtckggbkoabmjiaaDoorQz18
import Derived.Test.YtckggbkoabmjiaaDoorQz19
import Derived.Test.YtckggbkoabmjiaaDoorQz20
import Derived.Test.YtckggbkoabmjiaaDoorQz22
import Derived.Test.YtckggbkoabmjiaaDoorQz23
import Derived.Test.YtckggbkoabmjiaaDoorQz25
import Derived.Test.YtckggbkoabmjiaaDoorQz26
import Derived.Test.YtckggbkoabmjiaaDoorQz32
import Derived.Test.YtckggbkoabmjiaaDoorQz33
import Derived.Test.YtckggbkoabmjiaaDoorQz34
namespace Go.Proofs.YtckggbkoabmjiaaDoor
open Go.ChangeShapes Go.WideShapes Go.ChangeAt Go.WideMaps Go.WideElems Go.RowKit
set_option linter.unusedVariables false

def curveOtherLaid : List (String × DataW Unit) := [("portcullis/portcullisref1.k512", Rows.laid_portcullis_portcullisref1_k512), ("portcullis/portcullisref3.rootOfMinusOne", Rows.laid_portcullis_portcullisref3_rootOfMinusOne), ("portcullis/portcullisref3.order", Rows.laid_portcullis_portcullisref3_order), ("portcullis/portcullisref3.d", Rows.laid_portcullis_portcullisref3_d), ("portcullis/portcullisref3.baseX", Rows.laid_portcullis_portcullisref3_baseX), ("portcullis/portcullisref3.baseY", Rows.laid_portcullis_portcullisref3_baseY), ("portcullis/scalar.tail", Rows.laid_portcullis_scalar_tail), ("portcullis/shb.roots", Rows.laid_portcullis_shb_roots), ("portcullis/curve.d", Rows.laid_portcullis_curve_d)]
theorem curveOther_door (os : Os) (args : Array Value) : laidMetH Tryd.prog curveOtherLaid ((World.doorLaid Tryd.prog 400 os).forCall (fun _ _ => 0) ⟨#[], args, []⟩).memory :=
  laidMetH_of_parts3 (fuel := 8) (laidMet_of_run' 8 (by kernel_rfl) (by kernel_rfl)) (by kernel_rfl) (by kernel_rfl)
def curveOtherGlob : World → Prop := fun W => GlobRQ W ∧ GlobT W ∧ GlobC W ∧ GlobK5 W ∧ GlobO W ∧ GlobD W ∧ Glob W ∧ GlobX W ∧ GlobY W
theorem curveOther_glob (W : World) (h : laidMetH Tryd.prog curveOtherLaid W) : curveOtherGlob W := ⟨globR_ofQ (by kernel_rfl) h (by simp [curveOtherLaid]), globT_of (by kernel_rfl) h (by simp [curveOtherLaid]), globC_of (by kernel_rfl) h (by simp [curveOtherLaid]), globK_ofQ (by kernel_rfl) h (by simp [curveOtherLaid]), globO_of (by kernel_rfl) h (by simp [curveOtherLaid]), globD_of (by kernel_rfl) h (by simp [curveOtherLaid]), globL_of (by kernel_rfl) h (by simp [curveOtherLaid]), globX_of (by kernel_rfl) h (by simp [curveOtherLaid]), globY_of (by kernel_rfl) h (by simp [curveOtherLaid])⟩

set_option maxRecDepth 100000 in
theorem curveOther_walk {H : Type} (enc : TypeId × Value → H) : LawWalkG curveOtherGlob enc Tryd.prog 8 Tryd.f8.params.toList := by
  intro W base args ds ps hval hA hlt hfz hG
  rw [Tryd.params8] at hA hval
  obtain ⟨v0, v1, v2, d0, d1, d2, p0, p1, p2, rfl, rfl, rfl, h0, h1, h2⟩ := trodAll_three hA
  obtain ⟨x0, rfl, hx0⟩ := open_num Tryd.underlying23 Tryd.underlying5 (by kernel_rfl) (by kernel_rfl) (hval 0 23 v0 rfl rfl) h0
  obtain ⟨x1, rfl, hx1⟩ := open_num Tryd.underlying23 Tryd.underlying5 (by kernel_rfl) (by kernel_rfl) (hval 1 23 v1 rfl rfl) h1
  obtain ⟨x2, hx2⟩ := open_bytes Tryd.underlying33 Tryd.underlying5 (by kernel_rfl) (hval 2 33 v2 rfl rfl) h2
  exact curveOther_any x0 x1 v2 x2 W hx0 hx1 hx2 hG.1 hG.2.1 hG.2.2.1 hG.2.2.2.1 hG.2.2.2.2.1 hG.2.2.2.2.2.1 hG.2.2.2.2.2.2.1 hG.2.2.2.2.2.2.2.1 hG.2.2.2.2.2.2.2.2

set_option maxRecDepth 100000 in
theorem curveOther_lifted (os : Os) (started : os.Started) (H : Type) (enc : TypeId × Value → H) :
    ReturnsInHanded {} Tryd.checked os 8 .any (fun w args => (Rows.curveOtherSpec.pre enc Tryd.prog Tryd.f8 [] false w args ∧ laidMetH Tryd.prog curveOtherLaid w) ∧ sizedMet enc Tryd.prog Tryd.f8 (OpenSpec.ofChange Rows.curveOtherSpec) false w args)
      (Rows.curveOtherSpec.post enc Tryd.prog Tryd.f8 false true false false) :=
  law_lift_tied (G := curveOtherGlob) (C := Tryd.checked) (s := Rows.curveOtherSpec) curveOtherLaid law_own law_laid started (by kernel_rfl) Tryd.func8 rfl (by kernel_rfl) (by kernel_rfl) Tryd.underlying4
    (fun ds h => by
      match ds, h with
      | [_, _, _], _ => exact ⟨rfl, rfl, rfl⟩)
    (ChangeSpec.witness_shaped (enc := enc) (C := Tryd.checked) (os := os) (X := fun w _ => laidMetH Tryd.prog curveOtherLaid w) false (World.doorLaid Tryd.prog 400 os) #[.agg #[.int .u8 0, .int .u8 0, .int .u8 0, .int .u8 0, .int .u8 0, .int .u8 0, .int .u8 0, .int .u8 0, .int .u8 0, .int .u8 0, .int .u8 0, .int .u8 0, .int .u8 0, .int .u8 0, .int .u8 0, .int .u8 0, .int .u8 0, .int .u8 0, .int .u8 0, .int .u8 0, .int .u8 0, .int .u8 0, .int .u8 0, .int .u8 0, .int .u8 0, .int .u8 0, .int .u8 0, .int .u8 0, .int .u8 0, .int .u8 0, .int .u8 0, .int .u8 0], .agg #[.int .u8 0, .int .u8 0, .int .u8 0, .int .u8 0, .int .u8 0, .int .u8 0, .int .u8 0, .int .u8 0, .int .u8 0, .int .u8 0, .int .u8 0, .int .u8 0, .int .u8 0, .int .u8 0, .int .u8 0, .int .u8 0, .int .u8 0, .int .u8 0, .int .u8 0, .int .u8 0, .int .u8 0, .int .u8 0, .int .u8 0, .int .u8 0, .int .u8 0, .int .u8 0, .int .u8 0, .int .u8 0, .int .u8 0, .int .u8 0, .int .u8 0, .int .u8 0], .slice none 0 0] 8 rfl (World.shaped_of_RefB (by kernel_rfl) (by kernel_rfl)) (by kernel_rfl) (by kernel_rfl) (by kernel_rfl) (curveOther_door os _))
    curveOther_glob (curveOther_walk enc)

theorem curveOther_holds : Rows.CurveOtherSaid :=
  OpenClaim.holds_of_wide 8 Tryd.f8 rfl rfl rfl rfl rfl rfl rfl ⟨rfl, rfl, rfl, rfl, rfl⟩ rfl rfl rfl rfl rfl (by kernel_rfl) Tryd.func8 (by kernel_rfl)
    (of_decide_eq_true (by kernel_rfl)) (by unfold Func.isWrapper; first | (rw [if_pos (by decide +kernel)]; kernel_rfl) | (rw [if_neg (by decide +kernel)]; exact ⟨rfl, rfl⟩))
    (fun os started H enc _ => curveOther_lifted os started H enc)

theorem curveOther_card : Rows.CurveOtherCardSaid :=
  Claim7.holds_tied_plain_at .later [] [.data, .data, .data, .data, .data, .data, .data, .data, .data] true (true, "61fdbcf794a9129560bc2492be0c73d4b36e2cbde2f25c76fc4499fd178b5b9b") false
    curveOther_holds (fun _ h => by cases h) (by kernel_rfl) (fun _ h => by cases h) curveOther_row_tie rfl ⟨rfl, rfl⟩ (by kernel_rfl) rfl
    (fun f fn hf hfn => by
      obtain rfl : f = 8 := Option.some.inj ((show Tryd.prog.funcNamed "portcullis/portcullislaw13.CurveOther" = some 8 by kernel_rfl).symm.trans hf) |>.symm
      obtain rfl : fn = Tryd.f8 := (Option.some.inj (Tryd.func8.symm.trans hfn)).symm
      exact ⟨by kernel_rfl, fun j t ht => by
        rw [Tryd.params8] at ht
        have hm : t ∈ [23, 23, 33] := by simpa using Array.mem_of_getElem? ht
        have hall : ([23, 23, 33].all fun u => !Tryd.prog.wantsStandIn u) = true := by kernel_rfl
        exact (show Tryd.prog.wantsStandIn t = false by simpa using List.all_eq_true.1 hall t hm)⟩)
    (by kernel_rfl)

end Go.Proofs.YtckggbkoabmjiaaDoor
