/- FieldRoots holds, and its tied card: the listed variable is opened, the law is lifted. -/
import Derived.Test.YtmiapjmdolecbaaDoorLawKit
import Derived.Test.YtmiapjmdolecbaaDoorFldOpen
import Derived.Test.YtmiapjmdolecbaaDoorFldLawRoots
import Derived.Test.YtmiapjmdolecbaaDoorRows
import Derived.Test.YtmiapjmdolecbaaDoorCards
import Derived.Test.YtmiapjmdolecbaaDoorTie
import Derived.ProofKit
import Derived.LaidMore
import Derived.OpenShut
import Derived.Stop.Joined
import Derived.SevenTiedAt
namespace Go.Proofs.YtmiapjmdolecbaaDoor
open Go.ChangeShapes Go.WideShapes Go.ChangeAt Go.WideMaps Go.WideElems Go.RowKit
set_option linter.unusedVariables false

def rootLaid : List (String × DataW Unit) := [("portcullis/portcullisref3.rootOfMinusOne", Rows.laid_portcullis_portcullisref3_rootOfMinusOne)]
theorem gRoot : Tryd.prog.globalNamed "portcullis/portcullisref3.rootOfMinusOne" = some 0 := by kernel_rfl
theorem tRoot : (Tryd.prog.globals[0]?).map (·.type) = some 42 := by kernel_rfl
theorem door_met (os : Os) (args : Array Value) : laidMetH Tryd.prog rootLaid ((World.doorLaid Tryd.prog 400 os).forCall (fun _ _ => 0) ⟨#[], args, []⟩).memory :=
  laidMetH_of_parts3 (fuel := 8) (laidMet_of_run' 8 (by kernel_rfl) (by kernel_rfl)) (by kernel_rfl) (by kernel_rfl)
theorem datum_cells : (Rows.laid_portcullis_portcullisref3_rootOfMinusOne : DataW Unit) = .agg (RTL.map fun z => .lit (.int .i64 z)) := rfl

theorem glob_of_laid {W : World} (h : laidMetH Tryd.prog rootLaid W) : Glob W := by
  rw [MakeChecks.laidMetH_plain _ _ _ (by kernel_rfl)] at h
  obtain ⟨ps, ⟨g0, t0, cs0, f0, p0, q0, hg0, ht0, hv0, hd0, _, _⟩, _, _⟩ := h
  obtain rfl := Option.some.inj (gRoot.symm.trans hg0)
  obtain rfl := Option.some.inj (tRoot.symm.trans ht0)
  obtain ⟨xs, m, rfl, hx1, hlen, hn, hel⟩ := DataW.trod_array Tryd.underlying42 hd0
  rw [datum_cells] at hx1
  simp only [Prod.mk.injEq, DataW.agg.injEq] at hx1
  have c3 : Tryd.prog.cellsOf 3 = 1 := by kernel_rfl
  intro j v hj
  have hj16 : j < 16 := by
    apply Classical.byContradiction
    intro hn'
    rw [List.getElem?_eq_none (by rw [ints_length]; show 16 ≤ j; omega)] at hj
    cases hj
  have h0 := hel j hj16
  rw [c3, Nat.mul_one] at h0
  obtain ⟨x0, hx0⟩ : ∃ x0, xs[j]? = some x0 := ⟨xs[j], List.getElem?_eq_getElem (by omega)⟩
  rw [hx0] at h0
  obtain ⟨k, e1, e2, _⟩ := DataW.trod_int Tryd.underlying3 h0
  have e3 : (RTL.map fun z => (DataW.lit (.int .i64 z) : DataW Unit))[j]? = some x0.1 := by rw [hx1.1, List.getElem?_map, hx0]; rfl
  rw [e2, List.getElem?_map] at e3
  have e4 : RTL[j]? = some k := by
    cases hr : RTL[j]? with
    | none => rw [hr] at e3; cases e3
    | some z => rw [hr] at e3; simpa using e3
  have e5 : v = .int .i64 k := by
    unfold ints at hj
    rw [List.getElem?_map, e4] at hj
    simpa using hj.symm
  have e6 : cs0.toList[j]? = some (.int .i64 k) := by
    have := congrArg (fun l : List Value => l[0]?) e1
    simpa [List.getElem?_take, List.getElem?_drop] using this
  have := World.var?_cell hg0 hv0 j
  rw [Nat.zero_add, this, e5]
  simpa using e6

set_option maxRecDepth 100000 in
theorem fieldRoots_lifted (os : Os) (started : os.Started) (H : Type) (enc : TypeId × Value → H) :
    ReturnsInHanded {} Tryd.checked os 3 .any (fun w args => (Rows.fieldRootsSpec.pre enc Tryd.prog Tryd.f3 [] false w args ∧ laidMetH Tryd.prog rootLaid w) ∧ sizedMet enc Tryd.prog Tryd.f3 (OpenSpec.ofChange Rows.fieldRootsSpec) false w args)
      (Rows.fieldRootsSpec.post enc Tryd.prog Tryd.f3 false true false false) := by
  refine returnsInHanded_of_change_and (C := Tryd.checked) (X := fun w _ => laidMetH Tryd.prog rootLaid w) (fun _ _ _ hh h => h.of_heap hh) law_own started (by kernel_rfl) Tryd.func3
    (ChangeSpec.witness_shaped (enc := enc) (C := Tryd.checked) (os := os) (X := fun w _ => laidMetH Tryd.prog rootLaid w) false (World.doorLaid Tryd.prog 400 os) #[.agg #[.int .u8 0, .int .u8 0, .int .u8 0, .int .u8 0, .int .u8 0, .int .u8 0, .int .u8 0, .int .u8 0, .int .u8 0, .int .u8 0, .int .u8 0, .int .u8 0, .int .u8 0, .int .u8 0, .int .u8 0, .int .u8 0, .int .u8 0, .int .u8 0, .int .u8 0, .int .u8 0, .int .u8 0, .int .u8 0, .int .u8 0, .int .u8 0, .int .u8 0, .int .u8 0, .int .u8 0, .int .u8 0, .int .u8 0, .int .u8 0, .int .u8 0, .int .u8 0]] 8 rfl (World.shaped_of_RefB (by kernel_rfl) (by kernel_rfl)) (by kernel_rfl) (by kernel_rfl) (by kernel_rfl) (door_met os _)) ?_
  intro W base args ds gs before hval0 hW _ _ hL _
  have hW' := hW
  have hlt := hW.lt
  obtain ⟨p, q, hA, hV, rfl, hfz, hnd⟩ := hW
  obtain ⟨rfl, rfl⟩ := trodVars_none hV
  rw [List.append_nil] at hlt hfz
  have hA2 := hA
  have hval : ∀ (j : Nat) t v, Tryd.f3.params[j]? = some t → args[j]? = some v → Value.okWide Tryd.prog W .any base t v := hval0
  rw [Tryd.params3] at hA2 hval
  obtain ⟨v0, d0, rfl, rfl, h0⟩ := trodAll_one hA2
  obtain ⟨x0, rfl, hx0⟩ := open_num Tryd.underlying23 Tryd.underlying5 (by kernel_rfl) (by kernel_rfl) (hval 0 23 v0 rfl rfl) h0
  refine (fieldRoots_any x0 W hx0 (glob_of_laid hL)).mono ?_
  rintro e w' ⟨rfl, hbel⟩
  refine ⟨_, rfl, [d0], [], p ++ [], [], p, [], hW', ?_, ?_, ?_, ?_, ?_⟩
  · rw [List.append_nil]
    exact trodAll_mk1 (shut_bool Tryd.underlying4 _)
  · rw [List.append_nil]
    exact trodAll_stays law_laid (by kernel_rfl) hA (fun x hx => hbel.same (hlt x hx)) (fun x hx => by simpa using hlt x hx)
  · rfl
  · exact hbel.frame _
  · intro h
    cases h

theorem fieldRoots_holds : Rows.FieldRootsSaid :=
  OpenClaim.holds_of_wide 3 Tryd.f3 rfl rfl rfl rfl rfl rfl rfl ⟨rfl, rfl, rfl, rfl, rfl⟩ rfl rfl rfl rfl rfl (by kernel_rfl) Tryd.func3 (by kernel_rfl)
    (of_decide_eq_true (by kernel_rfl)) (by unfold Func.isWrapper; first | (rw [if_pos (by decide +kernel)]; kernel_rfl) | (rw [if_neg (by decide +kernel)]; exact ⟨rfl, rfl⟩))
    (fun os started H enc _ => fieldRoots_lifted os started H enc)

theorem fieldRoots_card : Rows.FieldRootsCardSaid :=
  Claim7.holds_tied_plain_at .later [] [.data] true (true, "f8ae5edd2a23197cb7f55e0d20fcbf6bd3560b3a1c57a1ae907f96dcc27dbcc5") false
    fieldRoots_holds (fun _ h => by cases h) (by kernel_rfl) (fun _ h => by cases h) fieldRoots_row_tie rfl ⟨rfl, rfl⟩ (by kernel_rfl) rfl
    (fun f fn hf hfn => by
      obtain rfl : f = 3 := Option.some.inj ((show Tryd.prog.funcNamed "portcullis/portcullislaw3.FieldRoots" = some 3 by kernel_rfl).symm.trans hf) |>.symm
      obtain rfl : fn = Tryd.f3 := (Option.some.inj (Tryd.func3.symm.trans hfn)).symm
      exact ⟨by kernel_rfl, fun j t ht => by
        rw [Tryd.params3] at ht
        have hm : t ∈ [23] := by simpa using Array.mem_of_getElem? ht
        have hall : ([23].all fun u => !Tryd.prog.wantsStandIn u) = true := by kernel_rfl
        exact (show Tryd.prog.wantsStandIn t = false by simpa using List.all_eq_true.1 hall t hm)⟩)
    (by kernel_rfl)

end Go.Proofs.YtmiapjmdolecbaaDoor
