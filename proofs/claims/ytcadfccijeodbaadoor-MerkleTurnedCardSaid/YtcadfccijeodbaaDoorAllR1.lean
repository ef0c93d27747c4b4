/- Texts that belong together, one behind the other; each says in its own first remark what it shows. -/
import Derived.Test.YtcadfccijeodbaaDoorLawKit
import Derived.Test.YtcadfccijeodbaaDoorArrKit
import Derived.LaidMore
import Derived.OpenShut
import Derived.Stop.Joined
import Derived.SevenTiedAt
import Derived.Test.YtcadfccijeodbaaDoorRows
import Derived.Test.YtcadfccijeodbaaDoorAllC1
import Derived.Test.YtcadfccijeodbaaDoorRefSha
import Derived.Test.YtcadfccijeodbaaDoorProg
import Derived.Test.YtcadfccijeodbaaDoorRowMore
import Derived.Test.YtcadfccijeodbaaDoorHeldMore
import Derived.Test.YtcadfccijeodbaaDoorDetLoad
import Derived.Deep.CutRange
import Derived.Deep.CutBlock
import Derived.Deep.RegionWith

/- Laws whose rows list package-level variables: what a listed array of whole numbers reads as, and the lift of a law that asks for it. No condition of its own. -/
namespace Go.Proofs.YtcadfccijeodbaaDoor
open Go.ChangeShapes Go.WideShapes Go.ChangeAt Go.WideMaps Go.WideElems Go.RowKit
set_option linter.unusedVariables false

theorem laid_in {P : Program} {w : World} : ∀ {laid : List (String × DataW Unit)} {ps : List MemPlace} {n : String} {d : DataW Unit}, DataW.LaidVars P w laid ps → (n, d) ∈ laid →
    ∃ g t cs fuel p, P.globalNamed n = some g ∧ (P.globals[g]?).map (·.type) = some t ∧ w.var? P n = some cs ∧ DataW.trod (fun _ => ()) P w 0 (fun _ => true) false fuel t cs.toList = some (d, p)
  | [], _, _, _, _, hm => by cases hm
  | (n0, d0) :: r, ps, n, d, h, hm => by
    obtain ⟨g, t, cs, fuel, p, q, h1, h2, h3, h4, h5, _⟩ := h
    rcases List.mem_cons.1 hm with e | hm
    · cases e
      exact ⟨g, t, cs, fuel, p, h1, h2, h3, h4⟩
    · exact laid_in h5 hm

/-- A listed array of whole numbers lies as it is listed. -/
theorem range_of_laid {P : Program} {W : World} {L : List (String × DataW Unit)} {n : String} {g len : Nat} {t e : TypeId} {k : IntKind} {zs : List Int} {d : DataW Unit}
    (hplain : (L.all fun x => x.2.handleName?.isNone) = true) (h : laidMetH P L W) (hm : (n, d) ∈ L) (hd : d = .agg (zs.map fun z => .lit (.int k z)))
    (hg : P.globalNamed n = some g) (ht : (P.globals[g]?).map (·.type) = some t) (hu : P.underlying t = some (.array len e)) (he : P.underlying e = some (.int k)) (hc : P.cellsOf e = 1) (hz : zs.length = len) : W.rangeAt g 0 (ints k zs) := by
  rw [MakeChecks.laidMetH_plain _ _ _ hplain] at h
  obtain ⟨ps, hl, _, _⟩ := h
  obtain ⟨g0, t0, cs0, f0, p0, hg0, ht0, hv0, hd0⟩ := laid_in hl hm
  obtain rfl := Option.some.inj (hg.symm.trans hg0)
  obtain rfl := Option.some.inj (ht.symm.trans ht0)
  obtain ⟨xs, m, rfl, hx1, hlen, hn, hel⟩ := DataW.trod_array hu hd0
  rw [hd] at hx1
  simp only [Prod.mk.injEq, DataW.agg.injEq] at hx1
  intro j v hj
  have hjl : j < len := by
    apply Classical.byContradiction
    intro hn'
    rw [List.getElem?_eq_none (by rw [ints_length]; omega)] at hj
    cases hj
  have h0 := hel j hjl
  rw [hc, Nat.mul_one] at h0
  obtain ⟨x0, hx0⟩ : ∃ x0, xs[j]? = some x0 := ⟨xs[j], List.getElem?_eq_getElem (by omega)⟩
  rw [hx0] at h0
  obtain ⟨q, e1, e2, _⟩ := DataW.trod_int he h0
  have e3 : (zs.map fun z => (DataW.lit (.int k z) : DataW Unit))[j]? = some x0.1 := by rw [hx1.1, List.getElem?_map, hx0]; rfl
  rw [e2, List.getElem?_map] at e3
  have e4 : zs[j]? = some q := by
    cases hr : zs[j]? with
    | none => rw [hr] at e3; cases e3
    | some z => rw [hr] at e3; simpa using e3
  have e5 : v = .int k q := by
    unfold ints at hj
    rw [List.getElem?_map, e4] at hj
    simpa using hj.symm
  have e6 : cs0.toList[j]? = some (.int k q) := by
    have := congrArg (fun l : List Value => l[0]?) e1
    simpa [List.getElem?_take, List.getElem?_drop] using this
  have := World.var?_cell hg0 hv0 j
  rw [Nat.zero_add, this, e5]
  simpa using e6

/-- What a law's walk owes that asks for variables as they are listed. -/
def LawWalkG (G : World → Prop) {H : Type} (enc : TypeId × Value → H) (P : Program) (f : FuncId) (ts : List TypeId) : Prop :=
  ∀ (W : World) (base : Nat) (args : Array Value) (ds : List (DataW H)) (ps : List MemPlace),
    (∀ (j : Nat) (t : TypeId) (v : Value), ts[j]? = some t → args[j]? = some v → Value.okWide P W .any base t v) →
    DataW.TrodAll enc P W 0 (fun _ => true) true ts args.toList ds ps → (∀ x ∈ ps, x.block < W.heap.size) → W.noneFrozen ps → G W →
    Calls P f args W fun e w' => e = .returned (.bool true) ∧ Below W.heap.size W w'

theorem law_lift_tied {G : World → Prop} {H : Type} {enc : TypeId × Value → H} {C : Checked} {os : Os} {f : FuncId} {fn : Func} {s : ChangeSpec} {tb : TypeId} (L : List (String × DataW Unit))
    (own : ownKnob C.prog.godebug = none) (laid : laidOutB C.prog = true) (started : os.Started)
    (hinit : C.prog.inits.idxOf? f = none) (hf : C.prog.funcs[f]? = some fn) (hvars : s.vars = [])
    (hread : (fn.params.toList.all fun t => C.prog.readableRec t && decide (t < C.prog.types.size)) = true)
    (hres : fn.resultTypes = #[tb]) (hb : C.prog.underlying tb = some .bool)
    (hs : ∀ ds : List (DataW H), ds.length = fn.params.toList.length → (s.fn H ds).results = [.lit (.bool true)] ∧ (s.fn H ds).args = ds ∧ (s.fn H ds).vars = [])
    (hwit : ∃ (w : World) (tape : Tape) (i : Input), w.os = os ∧ (w.forCall tape i).Shaped C.prog ∧ i.vars = [] ∧ Input.okWide C.prog (w.forCall tape i) .any w.heap.size f i ∧
      ((s.pre enc C.prog fn [] false (w.forCall tape i).memory i.args ∧ laidMetH C.prog L (w.forCall tape i).memory) ∧ sizedMet enc C.prog fn (OpenSpec.ofChange s) false (w.forCall tape i).memory i.args) ∧ ({} : Assume).holds C.prog (lone (Frame.enter C.prog f i.args .normal) [] (w.forCall tape i)))
    (hglob : ∀ W, laidMetH C.prog L W → G W) (walk : LawWalkG G enc C.prog f fn.params.toList) :
    ReturnsInHanded {} C os f .any (fun w args => (s.pre enc C.prog fn [] false w args ∧ laidMetH C.prog L w) ∧ sizedMet enc C.prog fn (OpenSpec.ofChange s) false w args) (s.post enc C.prog fn false true false false) := by
  refine returnsInHanded_of_change_and (C := C) (X := fun w _ => laidMetH C.prog L w) (fun _ _ _ hh h => h.of_heap hh) own started hinit hf hwit ?_
  intro W base args ds gs before hval hW _ _ hL _
  have hW' := hW
  have hlt := hW.lt
  obtain ⟨p, q, hA, hV, rfl, hfz, hnd⟩ := hW
  rw [hvars] at hV
  obtain ⟨rfl, rfl⟩ := trodVars_none hV
  rw [List.append_nil] at hlt hfz
  have hlen := trodAll_len hA
  obtain ⟨e1, e2, e3⟩ := hs ds hlen
  refine (walk W base args ds p (fun j t v hj hv => hval j t v (by rw [← Array.getElem?_toList]; exact hj) hv) hA hlt hfz (hglob W hL)).mono ?_
  rintro e w' ⟨rfl, hbel⟩
  refine ⟨_, rfl, ds, [], p ++ [], [], p, [], hW', ?_, ?_, ?_, ?_, ?_⟩
  · rw [List.append_nil, e1, hres]
    exact trodAll_mk1 (shut_bool hb _)
  · rw [List.append_nil, e2]
    exact trodAll_stays laid hread hA (fun x hx => hbel.same (hlt x hx)) (fun x hx => by simpa using hlt x hx)
  · rw [hvars, List.append_nil, e3]
    rfl
  · exact hbel.frame _
  · intro h
    cases h

end Go.Proofs.YtcadfccijeodbaaDoor

/- The listed variable of package sha reads as it is listed. Each theorem names its own conditions. -/
namespace Go.Proofs.YtcadfccijeodbaaDoor
open Go.RowKit
set_option linter.unusedVariables false

theorem gRoots : Tryd.prog.globalNamed "portcullis/sha.roots" = some 1 := by kernel_rfl
theorem tRoots : (Tryd.prog.globals[1]?).map (·.type) = some 62 := by kernel_rfl
theorem dRoots : (Rows.laid_portcullis_sha_roots : DataW Unit) = .agg ((ws K256).map fun z => .lit (.int .u32 z)) := by kernel_rfl
theorem globR_of {W : World} {L : List (String × DataW Unit)} (hp : (L.all fun x => x.2.handleName?.isNone) = true) (h : laidMetH Tryd.prog L W) (hm : ("portcullis/sha.roots", Rows.laid_portcullis_sha_roots) ∈ L) : GlobR W :=
  range_of_laid hp h hm dRoots gRoots tRoots Tryd.underlying62 Tryd.underlying47 (by kernel_rfl) (by rw [ws_length]; rfl)
theorem int_both {n : Int} (h : (Lit.int .i64 n).wf = true) : -9223372036854775808 ≤ n ∧ n ≤ 9223372036854775807 := by simpa [Lit.wf, IntKind.min, IntKind.max, IntKind.signed, IntKind.bits] using h
theorem int_lo {n : Int} (h : (Lit.int .i64 n).wf = true) : -9223372036854775808 ≤ n := (int_both h).1
theorem int_hi {n : Int} (h : (Lit.int .i64 n).wf = true) : n ≤ 9223372036854775807 := (int_both h).2

end Go.Proofs.YtcadfccijeodbaaDoor

/- The listed variables of chapter 5's laws read as they are listed. Each theorem names its own conditions. -/
namespace Go.Proofs.YtcadfccijeodbaaDoor
open Go.RowKit
set_option linter.unusedVariables false

theorem gK256 : Tryd.prog.globalNamed "portcullis/portcullisref1.k256" = some 0 := by kernel_rfl
theorem tK256 : (Tryd.prog.globals[0]?).map (·.type) = some 62 := by kernel_rfl
theorem dK256 : (Rows.laid_portcullis_portcullisref1_k256 : DataW Unit) = .agg ((ws K256).map fun z => .lit (.int .u32 z)) := by kernel_rfl
theorem globK_of {W : World} {L : List (String × DataW Unit)} (hp : (L.all fun x => x.2.handleName?.isNone) = true) (h : laidMetH Tryd.prog L W) (hm : ("portcullis/portcullisref1.k256", Rows.laid_portcullis_portcullisref1_k256) ∈ L) : GlobK W :=
  range_of_laid hp h hm dK256 gK256 tK256 Tryd.underlying62 Tryd.underlying47 (by kernel_rfl) (by rw [ws_length]; rfl)

end Go.Proofs.YtcadfccijeodbaaDoor

/- The parameters of a call, five and more. Nothing here speaks of a program. Each theorem names its own conditions. -/
namespace Go.Proofs.YtcadfccijeodbaaDoor
open Go.ChangeShapes Go.WideShapes Go.ChangeAt Go.RowKit
set_option linter.unusedVariables false
set_option linter.unusedSimpArgs false

section
variable {H : Type} {enc : TypeId × Value → H} {P : Program} {w : World} {base : Nat} {spare : Nat → Bool} {held : Bool}
theorem trodAll_five {t0 t1 t2 t3 t4 : TypeId} {args : Array Value} {ds : List (DataW H)} {ps : List MemPlace} (h : DataW.TrodAll enc P w base spare held [t0, t1, t2, t3, t4] args.toList ds ps) :
    ∃ v0 v1 v2 v3 v4 d0 d1 d2 d3 d4 p0 p1 p2 p3 p4, args = #[v0, v1, v2, v3, v4] ∧ ds = [d0, d1, d2, d3, d4] ∧ ps = p0 ++ p1 ++ p2 ++ p3 ++ p4 ∧ DataW.Trod enc P w base spare held t0 v0 d0 p0 ∧ DataW.Trod enc P w base spare held t1 v1 d1 p1 ∧ DataW.Trod enc P w base spare held t2 v2 d2 p2 ∧ DataW.Trod enc P w base spare held t3 v3 d3 p3 ∧ DataW.Trod enc P w base spare held t4 v4 d4 p4 := by
  obtain ⟨v0, vs0, d0, ds0, p0, q0, hargs, rfl, rfl, h0, r0⟩ := trodAll_cons h
  obtain ⟨v1, vs1, d1, ds1, p1, q1, rfl, rfl, rfl, h1, r1⟩ := trodAll_cons r0
  obtain ⟨v2, vs2, d2, ds2, p2, q2, rfl, rfl, rfl, h2, r2⟩ := trodAll_cons r1
  obtain ⟨v3, vs3, d3, ds3, p3, q3, rfl, rfl, rfl, h3, r3⟩ := trodAll_cons r2
  obtain ⟨v4, vs4, d4, ds4, p4, q4, rfl, rfl, rfl, h4, r4⟩ := trodAll_cons r3
  obtain ⟨rfl, rfl, rfl⟩ := trodAll_nil r4
  exact ⟨v0, v1, v2, v3, v4, d0, d1, d2, d3, d4, p0, p1, p2, p3, p4, by cases args; simp_all, rfl, by simp, h0, h1, h2, h3, h4⟩
theorem trodAll_six {t0 t1 t2 t3 t4 t5 : TypeId} {args : Array Value} {ds : List (DataW H)} {ps : List MemPlace} (h : DataW.TrodAll enc P w base spare held [t0, t1, t2, t3, t4, t5] args.toList ds ps) :
    ∃ v0 v1 v2 v3 v4 v5 d0 d1 d2 d3 d4 d5 p0 p1 p2 p3 p4 p5, args = #[v0, v1, v2, v3, v4, v5] ∧ ds = [d0, d1, d2, d3, d4, d5] ∧ ps = p0 ++ p1 ++ p2 ++ p3 ++ p4 ++ p5 ∧ DataW.Trod enc P w base spare held t0 v0 d0 p0 ∧ DataW.Trod enc P w base spare held t1 v1 d1 p1 ∧ DataW.Trod enc P w base spare held t2 v2 d2 p2 ∧ DataW.Trod enc P w base spare held t3 v3 d3 p3 ∧ DataW.Trod enc P w base spare held t4 v4 d4 p4 ∧ DataW.Trod enc P w base spare held t5 v5 d5 p5 := by
  obtain ⟨v0, vs0, d0, ds0, p0, q0, hargs, rfl, rfl, h0, r0⟩ := trodAll_cons h
  obtain ⟨v1, vs1, d1, ds1, p1, q1, rfl, rfl, rfl, h1, r1⟩ := trodAll_cons r0
  obtain ⟨v2, vs2, d2, ds2, p2, q2, rfl, rfl, rfl, h2, r2⟩ := trodAll_cons r1
  obtain ⟨v3, vs3, d3, ds3, p3, q3, rfl, rfl, rfl, h3, r3⟩ := trodAll_cons r2
  obtain ⟨v4, vs4, d4, ds4, p4, q4, rfl, rfl, rfl, h4, r4⟩ := trodAll_cons r3
  obtain ⟨v5, vs5, d5, ds5, p5, q5, rfl, rfl, rfl, h5, r5⟩ := trodAll_cons r4
  obtain ⟨rfl, rfl, rfl⟩ := trodAll_nil r5
  exact ⟨v0, v1, v2, v3, v4, v5, d0, d1, d2, d3, d4, d5, p0, p1, p2, p3, p4, p5, by cases args; simp_all, rfl, by simp, h0, h1, h2, h3, h4, h5⟩
theorem trodAll_seven {t0 t1 t2 t3 t4 t5 t6 : TypeId} {args : Array Value} {ds : List (DataW H)} {ps : List MemPlace} (h : DataW.TrodAll enc P w base spare held [t0, t1, t2, t3, t4, t5, t6] args.toList ds ps) :
    ∃ v0 v1 v2 v3 v4 v5 v6 d0 d1 d2 d3 d4 d5 d6 p0 p1 p2 p3 p4 p5 p6, args = #[v0, v1, v2, v3, v4, v5, v6] ∧ ds = [d0, d1, d2, d3, d4, d5, d6] ∧ ps = p0 ++ p1 ++ p2 ++ p3 ++ p4 ++ p5 ++ p6 ∧ DataW.Trod enc P w base spare held t0 v0 d0 p0 ∧ DataW.Trod enc P w base spare held t1 v1 d1 p1 ∧ DataW.Trod enc P w base spare held t2 v2 d2 p2 ∧ DataW.Trod enc P w base spare held t3 v3 d3 p3 ∧ DataW.Trod enc P w base spare held t4 v4 d4 p4 ∧ DataW.Trod enc P w base spare held t5 v5 d5 p5 ∧ DataW.Trod enc P w base spare held t6 v6 d6 p6 := by
  obtain ⟨v0, vs0, d0, ds0, p0, q0, hargs, rfl, rfl, h0, r0⟩ := trodAll_cons h
  obtain ⟨v1, vs1, d1, ds1, p1, q1, rfl, rfl, rfl, h1, r1⟩ := trodAll_cons r0
  obtain ⟨v2, vs2, d2, ds2, p2, q2, rfl, rfl, rfl, h2, r2⟩ := trodAll_cons r1
  obtain ⟨v3, vs3, d3, ds3, p3, q3, rfl, rfl, rfl, h3, r3⟩ := trodAll_cons r2
  obtain ⟨v4, vs4, d4, ds4, p4, q4, rfl, rfl, rfl, h4, r4⟩ := trodAll_cons r3
  obtain ⟨v5, vs5, d5, ds5, p5, q5, rfl, rfl, rfl, h5, r5⟩ := trodAll_cons r4
  obtain ⟨v6, vs6, d6, ds6, p6, q6, rfl, rfl, rfl, h6, r6⟩ := trodAll_cons r5
  obtain ⟨rfl, rfl, rfl⟩ := trodAll_nil r6
  exact ⟨v0, v1, v2, v3, v4, v5, v6, d0, d1, d2, d3, d4, d5, d6, p0, p1, p2, p3, p4, p5, p6, by cases args; simp_all, rfl, by simp, h0, h1, h2, h3, h4, h5, h6⟩
theorem trodAll_eight {t0 t1 t2 t3 t4 t5 t6 t7 : TypeId} {args : Array Value} {ds : List (DataW H)} {ps : List MemPlace} (h : DataW.TrodAll enc P w base spare held [t0, t1, t2, t3, t4, t5, t6, t7] args.toList ds ps) :
    ∃ v0 v1 v2 v3 v4 v5 v6 v7 d0 d1 d2 d3 d4 d5 d6 d7 p0 p1 p2 p3 p4 p5 p6 p7, args = #[v0, v1, v2, v3, v4, v5, v6, v7] ∧ ds = [d0, d1, d2, d3, d4, d5, d6, d7] ∧ ps = p0 ++ p1 ++ p2 ++ p3 ++ p4 ++ p5 ++ p6 ++ p7 ∧ DataW.Trod enc P w base spare held t0 v0 d0 p0 ∧ DataW.Trod enc P w base spare held t1 v1 d1 p1 ∧ DataW.Trod enc P w base spare held t2 v2 d2 p2 ∧ DataW.Trod enc P w base spare held t3 v3 d3 p3 ∧ DataW.Trod enc P w base spare held t4 v4 d4 p4 ∧ DataW.Trod enc P w base spare held t5 v5 d5 p5 ∧ DataW.Trod enc P w base spare held t6 v6 d6 p6 ∧ DataW.Trod enc P w base spare held t7 v7 d7 p7 := by
  obtain ⟨v0, vs0, d0, ds0, p0, q0, hargs, rfl, rfl, h0, r0⟩ := trodAll_cons h
  obtain ⟨v1, vs1, d1, ds1, p1, q1, rfl, rfl, rfl, h1, r1⟩ := trodAll_cons r0
  obtain ⟨v2, vs2, d2, ds2, p2, q2, rfl, rfl, rfl, h2, r2⟩ := trodAll_cons r1
  obtain ⟨v3, vs3, d3, ds3, p3, q3, rfl, rfl, rfl, h3, r3⟩ := trodAll_cons r2
  obtain ⟨v4, vs4, d4, ds4, p4, q4, rfl, rfl, rfl, h4, r4⟩ := trodAll_cons r3
  obtain ⟨v5, vs5, d5, ds5, p5, q5, rfl, rfl, rfl, h5, r5⟩ := trodAll_cons r4
  obtain ⟨v6, vs6, d6, ds6, p6, q6, rfl, rfl, rfl, h6, r6⟩ := trodAll_cons r5
  obtain ⟨v7, vs7, d7, ds7, p7, q7, rfl, rfl, rfl, h7, r7⟩ := trodAll_cons r6
  obtain ⟨rfl, rfl, rfl⟩ := trodAll_nil r7
  exact ⟨v0, v1, v2, v3, v4, v5, v6, v7, d0, d1, d2, d3, d4, d5, d6, d7, p0, p1, p2, p3, p4, p5, p6, p7, by cases args; simp_all, rfl, by simp, h0, h1, h2, h3, h4, h5, h6, h7⟩
theorem trodAll_nine {t0 t1 t2 t3 t4 t5 t6 t7 t8 : TypeId} {args : Array Value} {ds : List (DataW H)} {ps : List MemPlace} (h : DataW.TrodAll enc P w base spare held [t0, t1, t2, t3, t4, t5, t6, t7, t8] args.toList ds ps) :
    ∃ v0 v1 v2 v3 v4 v5 v6 v7 v8 d0 d1 d2 d3 d4 d5 d6 d7 d8 p0 p1 p2 p3 p4 p5 p6 p7 p8, args = #[v0, v1, v2, v3, v4, v5, v6, v7, v8] ∧ ds = [d0, d1, d2, d3, d4, d5, d6, d7, d8] ∧ ps = p0 ++ p1 ++ p2 ++ p3 ++ p4 ++ p5 ++ p6 ++ p7 ++ p8 ∧ DataW.Trod enc P w base spare held t0 v0 d0 p0 ∧ DataW.Trod enc P w base spare held t1 v1 d1 p1 ∧ DataW.Trod enc P w base spare held t2 v2 d2 p2 ∧ DataW.Trod enc P w base spare held t3 v3 d3 p3 ∧ DataW.Trod enc P w base spare held t4 v4 d4 p4 ∧ DataW.Trod enc P w base spare held t5 v5 d5 p5 ∧ DataW.Trod enc P w base spare held t6 v6 d6 p6 ∧ DataW.Trod enc P w base spare held t7 v7 d7 p7 ∧ DataW.Trod enc P w base spare held t8 v8 d8 p8 := by
  obtain ⟨v0, vs0, d0, ds0, p0, q0, hargs, rfl, rfl, h0, r0⟩ := trodAll_cons h
  obtain ⟨v1, vs1, d1, ds1, p1, q1, rfl, rfl, rfl, h1, r1⟩ := trodAll_cons r0
  obtain ⟨v2, vs2, d2, ds2, p2, q2, rfl, rfl, rfl, h2, r2⟩ := trodAll_cons r1
  obtain ⟨v3, vs3, d3, ds3, p3, q3, rfl, rfl, rfl, h3, r3⟩ := trodAll_cons r2
  obtain ⟨v4, vs4, d4, ds4, p4, q4, rfl, rfl, rfl, h4, r4⟩ := trodAll_cons r3
  obtain ⟨v5, vs5, d5, ds5, p5, q5, rfl, rfl, rfl, h5, r5⟩ := trodAll_cons r4
  obtain ⟨v6, vs6, d6, ds6, p6, q6, rfl, rfl, rfl, h6, r6⟩ := trodAll_cons r5
  obtain ⟨v7, vs7, d7, ds7, p7, q7, rfl, rfl, rfl, h7, r7⟩ := trodAll_cons r6
  obtain ⟨v8, vs8, d8, ds8, p8, q8, rfl, rfl, rfl, h8, r8⟩ := trodAll_cons r7
  obtain ⟨rfl, rfl, rfl⟩ := trodAll_nil r8
  exact ⟨v0, v1, v2, v3, v4, v5, v6, v7, v8, d0, d1, d2, d3, d4, d5, d6, d7, d8, p0, p1, p2, p3, p4, p5, p6, p7, p8, by cases args; simp_all, rfl, by simp, h0, h1, h2, h3, h4, h5, h6, h7, h8⟩
end

end Go.Proofs.YtcadfccijeodbaaDoor

/- The walk of what the laws of lists of bytes ask first: are they too many, or too long. Each theorem names its own conditions. -/
namespace Go.Proofs.YtcadfccijeodbaaDoor
open Go.RowKit
set_option linter.unusedVariables false
set_option linter.unusedSimpArgs false

/-- Are lists too many, or one too long? -/
def bigB (ls : List (List UInt8)) : Bool := decide (30 < ls.length) || ls.any fun x => decide (1000 < x.length)
theorem big_many {ls : List (List UInt8)} (h : 30 < ls.length) : bigB ls = true := by simp [bigB, h]
theorem big_one {ls : List (List UInt8)} {k : Nat} {l : List UInt8} (h : ls[k]? = some l) (hl : 1000 < l.length) : bigB ls = true := by
  unfold bigB
  rw [Bool.or_eq_true]
  right
  rw [List.any_eq_true]
  refine ⟨l, ?_, by simpa using hl⟩
  exact List.mem_of_getElem? h
theorem big_none {ls : List (List UInt8)} (h : ls.length ≤ 30) (hs : ∀ (j : Nat) (l : List UInt8), ls[j]? = some l → l.length ≤ 1000) : bigB ls = false := by
  unfold bigB
  rw [Bool.or_eq_false_iff]
  refine ⟨by simpa using h, ?_⟩
  rw [List.any_eq_false]
  intro x hx
  obtain ⟨j, hj, rfl⟩ := List.getElem_of_mem hx
  have := hs j _ (List.getElem?_eq_getElem hj)
  simpa using this
theorem flat_bound : ∀ (ls : List (List UInt8)), (∀ l ∈ ls, l.length ≤ 1000) → ls.flatten.length ≤ 1000 * ls.length
  | [], _ => by simp
  | l :: r, h => by
    have h1 := h l (List.mem_cons_self ..)
    have h2 := flat_bound r (fun x hx => h x (List.mem_cons_of_mem _ hx))
    simp only [List.flatten_cons, List.length_append, List.length_cons]
    omega
theorem small_flat {ls : List (List UInt8)} (h : bigB ls = false) : ls.flatten.length ≤ 30000 := by
  unfold bigB at h
  rw [Bool.or_eq_false_iff] at h
  have h1 : ls.length ≤ 30 := by simpa using h.1
  have h2 := h.2
  rw [List.any_eq_false] at h2
  have := flat_bound ls (fun l hl => by simpa using h2 l hl)
  omega
theorem small_len {ls : List (List UInt8)} (h : bigB ls = false) : ls.length ≤ 30 := by
  unfold bigB at h
  rw [Bool.or_eq_false_iff] at h
  simpa using h.1

set_option maxRecDepth 100000 in
set_option maxHeartbeats 4000000 in
theorem big_any (v : Value) (ls : List (List UInt8)) (w : World) (hv : RowB w v ls) : Calls Tryd.prog 10 #[v] w fun e w' => e = .returned (.bool (bigB ls)) ∧ w = w' := by
  obtain ⟨vals, hr, hlen, hx⟩ := hv
  obtain ⟨a, cap, rfl, r1, r2, r3, r4⟩ := id hr
  unfold maxLen at r2
  rw [hlen] at r1 ⊢
  have HX := Lib.hid hx
  have HC := Lib.hid r4
  have HLN := Lib.hid hlen
  clear hr hx r3 r4 hlen
  by_cases h30 : 30 < ls.length
  · have h31 : 30 < (ls.length : Int) := by omega
    rw [big_many h30]
    go_enter Tryd.func10, Tryd.ntmps10
    go_wp2_with fail
    go_ret
    exact ⟨rfl, rfl⟩
  · have h31 : (ls.length : Int) ≤ 30 := by omega
    have H30 : Hid (ls.length ≤ 30) := Lib.hid (by omega)
    obtain ⟨bb, hbb⟩ : ∃ b, b = bigB ls := ⟨_, rfl⟩
    have HBB := Lib.hid hbb
    rw [← hbb]
    clear h30 hbb
    go_enter Tryd.func10, Tryd.ntmps10
    go_wp2_with fail
    go_loop [3] (fun iv => ∃ k : Nat, k ≤ ls.length ∧ iv = .int .i64 (k : Int) ∧ ∀ (j : Nat) (l : List UInt8), j < k → ls[j]? = some l → l.length ≤ 1000) (fun iv => ls.length - (intOf iv).toNat)
    case atStart => exact ⟨0, Nat.zero_le _, rfl, fun j l hj => by omega⟩
    case round =>
      obtain ⟨k, hk, rfl, hall⟩ := hrel
      have HA := Lib.hid hall
      have k0 : (0 : Int) ≤ (k : Int) := Int.natCast_nonneg _
      clear hall
      by_cases hlk : k < ls.length
      · have k1 : (k : Int) < (ls.length : Int) := by omega
        obtain ⟨b', off, rfl, hbs, hcell⟩ := HC.out (by intro e; have h := congrArg List.length e; rw [HLN.out] at h; simp only [List.length_nil] at h; omega)
        obtain ⟨xv, hxv⟩ : ∃ x, vals[k]? = some x := ⟨_, List.getElem?_eq_getElem (by rw [HLN.out]; exact hlk)⟩
        obtain ⟨lk, hlk2⟩ : ∃ x, ls[k]? = some x := ⟨_, List.getElem?_eq_getElem hlk⟩
        have c0 : w.cell? ⟨b', off + k, none⟩ = some xv := by
          have h := hcell k (by rw [HLN.out]; exact hlk)
          rw [hxv] at h
          exact h
        obtain ⟨a2, cap2, rfl, s1, s2, s3, s4⟩ := HX.out k xv lk hxv hlk2
        rw [List.length_map] at s1 c0
        unfold maxLen at s2
        have HLK := Lib.hid hlk2
        clear hcell hxv hlk2 s3 s4
        by_cases hbig : 1000 < lk.length
        · have hbig2 : 1000 < (lk.length : Int) := by omega
          have HBT : Hid (bb = true) := Lib.hid (by rw [HBB.out]; exact big_one HLK.out hbig)
          go_wp2_with fail
          go_ret
          exact ⟨by rw [HBT.out]; rfl, rfl⟩
        · have hbig2 : (lk.length : Int) ≤ 1000 := by omega
          go_wp2_with fail
          go_round
          case rel =>
            refine ⟨k + 1, by omega, by go_num, fun j l hj hl => ?_⟩
            by_cases hjk : j = k
            · subst hjk
              have h := HLK.out
              rw [hl] at h
              cases h
              omega
            · exact HA.out j l (by omega) hl
          case measure => simp [intOf]; omega
      · have hk2 : (ls.length : Int) ≤ (k : Int) := by omega
        have HBF : Hid (bb = false) := Lib.hid (by
          rw [HBB.out]
          refine big_none H30.out (fun j l hl => HA.out j l ?_ hl)
          rcases Nat.lt_or_ge j ls.length with h | h
          · omega
          · rw [List.getElem?_eq_none h] at hl; cases hl)
        go_wp2_with fail
        go_ret
        exact ⟨by rw [HBF.out]; rfl, rfl⟩

end Go.Proofs.YtcadfccijeodbaaDoor

/- Further operations of a held region: greater, not the same, the rest, exclusive or of numbers. Nothing here speaks of a program. Each theorem names its own conditions. -/
namespace Go.Proofs.YtcadfccijeodbaaDoor
open Go.RowKit
set_option linter.unusedVariables false
set_option linter.unusedSimpArgs false

section
variable {P : Program} {ops : Array Oper} {S : World → Prop}
theorem yi_gti {o : Oper} {a : Act} (k : IntKind) (ty rt : TypeId) (x y : Operand) (b c : Int) (r : Bool) (hr : decide (c < b) = r) (hw : Region.wanted o (yielded ops a.tmps) = true) (ho : o.op = .binOp .gtr ty x y rt) (hx : a.eval x = .int k b) (hy : a.eval y = .int k c) : YieldsIf P ops S o (.bool r) a :=
  yi_val _ hw (fun w _ => by
    subst hr
    unfold execOp
    simp only [ho, hx, hy]
    simp [eqGuard, binOp, Op.intCmp, Result.andThen])
theorem yi_nei {o : Oper} {a : Act} (k : IntKind) (ty rt : TypeId) (x y : Operand) (b c : Int) (r : Bool) (hr : decide (b = c) = !r) (hw : Region.wanted o (yielded ops a.tmps) = true) (ho : o.op = .binOp .neq ty x y rt) (hx : a.eval x = .int k b) (hy : a.eval y = .int k c) : YieldsIf P ops S o (.bool r) a :=
  yi_val _ hw (fun w _ => by
    have hr2 : r = !decide (b = c) := by rw [hr, Bool.not_not]
    subst hr2
    unfold execOp
    simp only [ho, hx, hy]
    simp [eqGuard, binOp, Op.intCmp, Result.andThen]
    try rw [Bool.eq_iff_iff]; simp)
end

end Go.Proofs.YtcadfccijeodbaaDoor

/- MerkleTurned walks to true. Laid by wip/gen/gmert.py. Each theorem names its own conditions. -/
namespace Go.Proofs.YtcadfccijeodbaaDoor
open Go.RowKit
set_option linter.unusedVariables false
set_option linter.unusedSimpArgs false

theorem mer_smallT {ls : List (List UInt8)} (h : bigB ls = false) {l : List UInt8} (hl : l ∈ ls) : l.length ≤ 1000 := by
  unfold bigB at h
  rw [Bool.or_eq_false_iff] at h
  have h2 := h.2
  rw [List.any_eq_false] at h2
  simpa using h2 l hl
theorem flat_set : ∀ {ps : List (List UInt8)}, Nums ps → ∀ {i j : Nat} (x : UInt8), i < ps.length → j < 32 → ps.flatten.set (32 * i + j) x = (ps.set i ((ps.getD i []).set j x)).flatten
  | [], _, i, j, x, hi, _ => by simp at hi
  | p :: ps, h, 0, j, x, _, hj => by
    have hp := h p (List.mem_cons_self ..)
    rw [List.flatten_cons, Nat.mul_zero, Nat.zero_add, List.set_append_left _ _ (by omega)]
    rfl
  | p :: ps, h, i + 1, j, x, hi, hj => by
    have hp := h p (List.mem_cons_self ..)
    rw [List.flatten_cons, List.set_append_right _ _ (by omega), hp, show 32 * (i + 1) + j - 32 = 32 * i + j by omega, flat_set (fun q hq => h q (List.mem_cons_of_mem _ hq)) x (by simpa using hi) hj]
    rfl
/-- One cell of a row of numbers of the call's own is read, and written. -/
theorem own_putN {w : World} {base : Nat} {e : TypeId} {n : Nat} {x : Value} {xs : List Value} (h : w.ownsRow base e 32 x n xs) (k : Nat) (hk : k < n * 32) :
    ∃ g cap, x = .slice (some ⟨g, 0, none⟩) n cap ∧ base ≤ g ∧ g < w.heap.size ∧ w.cell? ⟨g, k, none⟩ = xs[k]? ∧ w.frozen? ⟨g, k, none⟩ = false ∧ ∀ u, (w.setCell ⟨g, k, none⟩ u).ownsRow base e 32 x n (xs.set k u) := by
  obtain ⟨hl, h1 | ⟨g, cap, cur, rfl, h2, h3, h4, h5, h6, h7⟩⟩ := h
  · omega
  · have hB : Blk w g cur.toList e := by
      show w.heap[g]? = some (.cells cur.toList.toArray e (0, 0))
      rw [Array.toArray_toList]
      exact h3
    refine ⟨g, cap, rfl, h2, hB.lt, ?_, hB.free k, fun u => ⟨by rw [List.length_set]; exact hl, Or.inr ⟨g, cap, cur.setIfInBounds k u, rfl, h2, heap_setCell_same w g k cur e u h3, h4, h5, by simp; omega, ?_⟩⟩⟩
    · rw [hB.cell, ← h7, List.getElem?_take, if_pos hk]
    · rw [Array.toList_setIfInBounds, List.take_set, h7]

theorem own_two {w : World} {base base' : Nat} {e e' : TypeId} {size size' n n' : Nat} {v v' : Value} {xs xs' : List Value} (h : w.ownsRow base e size v n xs) (h' : w.ownsRow base' e' size' v' n' xs') (hne : e ≠ e') : ∀ k, v'.ownBlock = some k → v.ownBlock ≠ some k := by
  intro k hk hv
  rcases h.2 with ⟨rfl, _⟩ | ⟨g, cap, cur, rfl, _, hg, _⟩
  · cases hv
  · rcases h'.2 with ⟨rfl, _⟩ | ⟨g', cap', cur', rfl, _, hg', _⟩
    · cases hk
    · have e1 : g = k := Option.some.inj hv
      have e2 : g' = k := Option.some.inj hk
      subst e1
      subst e2
      rw [hg] at hg'
      injection hg' with hg'
      injection hg' with _ h2 _
      exact hne h2

set_option maxRecDepth 100000 in
set_option maxHeartbeats 8000000 in
theorem merkleTurned_any (ls : List (List UInt8)) (i what at_ : Int) (y : UInt8) (v : Value) (w : World) (hv : RowB w v ls) (hi1 : -9223372036854775808 ≤ i) (hi2 : i ≤ 9223372036854775807) (hw1 : -9223372036854775808 ≤ what) (hw2 : what ≤ 9223372036854775807) (ha1 : -9223372036854775808 ≤ at_) (ha2 : at_ ≤ 9223372036854775807) (hG : MG w) (hK : GlobK w) :
    Calls Tryd.prog 5 #[v, .int .i64 i, .int .i64 what, .int .i64 at_, .int .u8 (y.toNat : Int)] w fun e w' => e = .returned (.bool true) ∧ Below w.heap.size w w' := by
  obtain ⟨iq, hq0, hq1, hq2, hq3⟩ := info_numz (P := Tryd.prog) (t := 26) (z := .agg (zer.map bval).toArray) (n := 32) (b := 32) (by kernel_rfl)
  obtain ⟨i0, hi, hz0, hz1, hz2⟩ := info_parts Tryd.info5
  have HI0 := Lib.hid hi
  have HZ0 := Lib.hid hz0
  have HZ1 := Lib.hid hz1
  have HZ2 := Lib.hid hz2
  have HQ0 := Lib.hid hq0
  have HQ1 := Lib.hid hq1
  have HQ2 := Lib.hid hq2
  have HQ3 := Lib.hid hq3
  have HG := Lib.hid hG
  have HGK := Lib.hid hK
  obtain ⟨a, cap, rfl, r1, r2⟩ := mer_form hv
  unfold maxLen at r2
  have HV0 := Lib.hid hv
  have l0 : (0 : Int) ≤ (ls.length : Int) := Int.natCast_nonneg _
  clear hG hK hv hi hz0 hz1 hz2 hq0 hq1 hq2 hq3
  go_enter Tryd.func5, Tryd.ntmps5
  go_wp2_with fail
  refine (alive_any15 w HG.out).mono ?_
  rintro e wb ⟨rfl, hb⟩
  have HE : Hid (Ext w wb) := Lib.hid hb
  have HV := Lib.hid (HV0.out.below hb)
  clear hb HV0
  go_wp2_with fail
  refine (big_any _ ls wb HV.out).mono ?_
  rintro e wq ⟨rfl, rfl⟩
  by_cases hbig : bigB ls = true
  · rw [hbig]
    go_wp2_with fail
    go_ret
    exact ⟨rfl, HE.out⟩
  · have hbig : bigB ls = false := by simpa using hbig
    have H30 := Lib.hid (small_len hbig)
    have HSM : Hid (∀ l ∈ ls, l.length ≤ 1000) := Lib.hid (fun l hl => mer_smallT hbig hl)
    rw [hbig]
    clear hbig
    by_cases c1 : i < 0
    · go_wp2_with fail
      go_ret
      exact ⟨rfl, HE.out⟩
    · by_cases c2 : (ls.length : Int) ≤ i
      · go_wp2_with fail
        go_ret
        exact ⟨rfl, HE.out⟩
      · by_cases c3 : at_ < 0
        · go_wp2_with fail
          go_ret
          exact ⟨rfl, HE.out⟩
        · obtain ⟨j, rfl⟩ : ∃ j : Nat, i = (j : Int) := ⟨i.toNat, by omega⟩
          obtain ⟨t, rfl⟩ : ∃ t : Nat, at_ = (t : Int) := ⟨at_.toNat, by omega⟩
          have hj : j < ls.length := by omega
          have hjl : (j : Int) < (ls.length : Int) := by omega
          have j0 : (0 : Int) ≤ (j : Int) := Int.natCast_nonneg _
          have t0 : (0 : Int) ≤ (t : Int) := Int.natCast_nonneg _
          have jb1 : decide ((j : Int) < 0) = false := decide_eq_false c1
          have jb2 : decide ((ls.length : Int) ≤ (j : Int)) = false := decide_eq_false c2
          have tb1 : decide ((t : Int) < 0) = false := decide_eq_false c3
          have l30 : (ls.length : Int) ≤ 30 := by have := H30.out; omega
          have HC1 := Lib.hid (rRoot_any ls _ wb (fun l hl => by have := HSM.out l hl; omega) (by omega) HV.out (HGK.out.ext HE.out))
          have HC2 := Lib.hid (fun (wx : World) (hx : Ext wb wx) => rPath_any ls _ j wx (fun l hl => by have := HSM.out l hl; omega) (by omega) hj (HV.out.below hx) (HGK.out.ext (HE.out.trans hx)))
          have HPM : Hid ((merP ls j).length ≤ 30) := Lib.hid (by have := merP_most 5 ls j (by have := H30.out; omega); omega)
          have HPN := Lib.hid (merP_nums ls j)
          have HRL : Hid ((merR ls).length = 32) := Lib.hid (merR_length ls)
          obtain ⟨bb, off, hab, hel⟩ := rowB_elem HV.out (by omega)
          subst hab
          obtain ⟨a2, c2', hc, hr⟩ := hel j hj
          have HC := Lib.hid hc
          have HY := Lib.hid hr
          have HYL : Hid ((ls.getD j []).length ≤ 1000) := Lib.hid (HSM.out _ (by
            rw [List.getD_eq_getElem?_getD, List.getElem?_eq_getElem hj]
            exact List.getElem_mem _))
          clear hel hc hr
          generalize merP ls j = pl at *
          generalize merR ls = r at *
          generalize ls.getD j [] = b at *
          have HIR := Lib.hid (num_size HRL.out)
          have HLR : Hid ((r.map bval).length = (ints .u8 (List.replicate 32 0)).length) := Lib.hid (by rw [List.length_map, HRL.out, ints_length, List.length_replicate])
          clear hi1 hi2
          go_wp2_with fail
          refine HC1.out.mono ?_
          rintro e w1 ⟨rfl, hb⟩
          have HW : Hid (Ext wb w1) := Lib.hid hb
          have HZ := Lib.hid (Blk.made w1 (ints .u8 (List.replicate 32 0)) 26)
          have HEA := Lib.hid (Ext.alloc w1 (.cells (ints .u8 (List.replicate 32 0)).toArray 26))
          clear hb HC1
          go_upto_region 6 with (refine wpList_store_blk rfl _ _ _ rfl w1.heap.size (r.map bval) rfl rfl _ _ HZ.out HLR.out HIR.out (bval_one _) ?_; intro w2 hb2 hg2)
          have HX := Lib.hid (ext_grown HEA.out hg2 (Nat.le_refl _))
          have HW := Lib.hid (HW.out.trans HX.out)
          have HD := Lib.hid hb2
          generalize w1.heap.size = D at *
          clear hb2 hg2 HZ HEA HX
          go_wp2_with fail
          refine (HC2.out w2 HW.out).mono ?_
          rintro e w3 ⟨x3, rfl, ho3, hb⟩
          have HO3 := Lib.hid ho3
          have HX : Hid (Ext w2 w3) := Lib.hid hb
          have HC3 : w3.cell? ⟨bb, off + j, none⟩ = some (.slice a2 b.length c2') := ((HW.out.trans hb).cell (World.block_lt_of_cell? wb _ HC.out)).trans HC.out
          have HY3 := Lib.hid (HY.out.below (HW.out.trans hb))
          clear ho3 hb HC2 HC HY
          go_upto_block 0 with (at_builtin; refine wpList_append_row rfl _ _ 34 rfl w2.heap.size 5 i0 (.int .u8 0) 1 Tryd.underlying34 HI0.out HZ0.out HZ1.out HZ2.out rfl (.slice none 0 0) 0 [] rfl (World.ownsRow_nil _ _ _ _) rfl HY3.out (bval_one _) (by have := HYL.out; rw [List.length_map]; unfold maxLen; omega) (by have := HYL.out; rw [List.length_map]; omega) HX.out.size ?_; intro v4 w4 ho4 hg4)
          rw [List.nil_append] at ho4
          have e34 : Ext w3 w4 := ext_own (Ext.refl _) (World.ownsRow_nil _ _ 5 _) (Nat.le_refl _) hg4
          have HO4 := Lib.hid ho4
          have HO3 := Lib.hid (own_below HO3.out e34)
          have HX := Lib.hid (HX.out.trans e34)
          have HPR := Lib.hid (RowN.of_own HO3.out HPN.out rfl rfl)
          have HO4 := Lib.hid (own_eq HO4.out (m := b.length) (by rw [List.length_map, Nat.zero_add]) rfl)
          have HBR := Lib.hid (Row1.of_own HO4.out)
          have HX3S : Hid (w2.heap.size ≤ w4.heap.size) := Lib.hid HX.out.size
          clear ho4 hg4 e34 HC3 HY3
          obtain ⟨ax, capx, hx3, _⟩ := HPR.out.form
          subst hx3
          have p0 : (0 : Int) ≤ (pl.length : Int) := Int.natCast_nonneg _
          go_cut [1, 14, 15, 16] from 52 to 107 (fun iv pv bv nv wc => ∃ (i2 n2 : Int) (b2 : List UInt8) (p2 : List (List UInt8)), iv = .int .i64 i2 ∧ nv = .int .i64 n2 ∧ (0 ≤ i2 ∧ i2 ≤ 1000000) ∧ (0 ≤ n2 ∧ n2 ≤ 1000000) ∧ Row1 wc bv (b2.map bval) ∧ RowN wc pv p2 ∧ b2.length ≤ 1001 ∧ p2.length ≤ 31 ∧ Ext w2 wc)
          case first =>
            by_cases h0 : what = 0
            · subst h0
              by_cases hp0 : pl.length = 0
              · obtain rfl : pl = [] := List.eq_nil_of_length_eq_zero hp0
                go_wp2_with fail
                go_meet
                exact ⟨(j : Int), (ls.length : Int), b, [], rfl, rfl, by omega, by omega, HBR.out, HPR.out, by have := HYL.out; omega, by simp, HX.out⟩
              · have hp0' : (0 : Int) < (pl.length : Int) := by omega
                have hp1 : ¬ (pl.length : Int) = 0 := by omega
                obtain ⟨q, hq⟩ : ∃ q, q = t % pl.length := ⟨_, rfl⟩
                obtain ⟨z, hz⟩ : ∃ z, z = t % 32 := ⟨_, rfl⟩
                have hql : q < pl.length := by rw [hq]; exact Nat.mod_lt _ (by omega)
                have hzl : z < 32 := by rw [hz]; exact Nat.mod_lt _ (by omega)
                have kq1 : (t : Int) % (pl.length : Int) = (q : Int) := by rw [hq]; omega
                have kq2 : Int.tmod (t : Int) (pl.length : Int) = (q : Int) := by rw [Int.tmod_eq_emod_of_nonneg (by omega)]; exact kq1
                have kz1 : (t : Int) % 32 = (z : Int) := by rw [hz]; omega
                have kz2 : Int.tmod (t : Int) 32 = (z : Int) := by rw [Int.tmod_eq_emod_of_nonneg (by omega)]; exact kz1
                have q0 : (0 : Int) ≤ (q : Int) := Int.natCast_nonneg _
                have q1 : (q : Int) < (pl.length : Int) := by omega
                have z0 : (0 : Int) ≤ (z : Int) := Int.natCast_nonneg _
                have z1 : (z : Int) < 32 := by omega
                obtain ⟨g, capg, hx3, hg1, hg2, hgc, hgf, hgs⟩ := own_putN HO3.out (32 * q + z) (by omega)
                injection hx3 with e1 _ e3
                subst e1 e3
                have hfl : 32 * q + z < pl.flatten.length := by rw [flat_length HPN.out]; omega
                rw [bval_get hfl, Nat.mul_comm 32 q] at hgc
                rw [Nat.mul_comm 32 q] at hgf
                obtain ⟨xx, hxx⟩ : ∃ xx, xx = pl.flatten.getD (q * 32 + z) 0 := ⟨_, rfl⟩
                rw [← hxx] at hgc
                have HXR : Hid (bits .xor .u8 (xx.toNat : Int) (y.toNat : Int) = (((xx ^^^ y).toNat : Nat) : Int)) := Lib.hid (xor_u8 _ _)
                have HFS := Lib.hid (flat_set HPN.out (xx ^^^ y) hql hzl)
                have HGS := Lib.hid (hgs (.int .u8 (((xx ^^^ y).toNat : Nat) : Int)))
                have HG1 := Lib.hid hg1
                have HG2 := Lib.hid hg2
                have HNS : Hid (Nums (pl.set q ((pl.getD q []).set z (xx ^^^ y)))) := Lib.hid (Nums.set (a := pl) HPN.out q (by rw [List.length_set]; exact Nums.getD HPN.out hql))
                clear hq hz hg1 hg2 hgs hfl hxx hql hzl
                go_upto_region 10 with (fail)
                go_region
                rw [HXR.out]
                have HPU : Hid ((pl.flatten.map bval).set (32 * q + z) (.int .u8 (((xx ^^^ y).toNat : Nat) : Int)) = (pl.set q ((pl.getD q []).set z (xx ^^^ y))).flatten.map bval) := Lib.hid (by rw [← HFS.out, List.map_set]; rfl)
                rw [HPU.out] at HGS
                rw [Nat.mul_comm 32 q] at HGS
                have HGW : Hid (w4.grownBy (w4.setCell ⟨g, q * 32 + z, none⟩ (.int .u8 (((xx ^^^ y).toNat : Nat) : Int))) (some g)) := Lib.hid (grownBy_setCells [.int .u8 (((xx ^^^ y).toNat : Nat) : Int)] (q * 32 + z) w4 w4 (grownBy_refl w4 _))
                have HPR := Lib.hid (RowN.of_own HGS.out HNS.out (by rw [List.length_set]) rfl)
                have HBR := Lib.hid (HBR.out.grown HGW.out (fun k hk => own_two HO4.out HO3.out (by decide) k hk))
                have HX := Lib.hid (ext_grown HX.out HGW.out HG1.out)
                generalize w4.setCell ⟨g, q * 32 + z, none⟩ (.int .u8 (((xx ^^^ y).toNat : Nat) : Int)) = w5 at *
                clear HGS HGW HPU HFS HXR hgc hgf
                go_wp2_with fail
                go_meet
                exact ⟨(j : Int), (ls.length : Int), b, _, rfl, rfl, by omega, by omega, HBR.out.below (Ext.drew _), HPR.out.below (Ext.drew _), by have := HYL.out; omega, by rw [List.length_set]; have := HPM.out; omega, HX.out.trans (Ext.drew _)⟩
            · have h0b : decide (what = 0) = false := decide_eq_false h0
              have h0c : (what == 0) = false := beq_false_of_ne h0
              by_cases h1 : what = 1
              · subst h1
                clear h0 h0b h0c
                have e1 := Ext.alloc w4 (.cells #[.int .u8 (y.toNat : Int)] 5)
                have HOA := Lib.hid (own_below HO4.out e1)
                have HRA : Hid (Row1 (w4.alloc (.cells #[.int .u8 (y.toNat : Int)] 5)) (.slice (some ⟨w4.heap.size, 0, none⟩) 1 1) (([y] : List UInt8).map bval)) := Lib.hid (Row1.made w4 _ _ _ 1 _ rfl rfl rfl (by unfold maxLen; omega))
                have HXA := Lib.hid (HX.out.trans e1)
                have HPA := Lib.hid (HPR.out.below e1)
                have HO3A := Lib.hid (own_below HO3.out e1)
                clear e1
                go_wp2_with (at_builtin; refine wpList_append_row rfl _ _ 34 rfl w2.heap.size 5 i0 (.int .u8 0) 1 Tryd.underlying34 HI0.out HZ0.out HZ1.out HZ2.out rfl _ _ _ rfl HOA.out rfl HRA.out (bval_one _) (by have := HYL.out; unfold maxLen; simp; omega) (by have := HYL.out; simp; omega) HXA.out.size ?_; intro v5 w5 ho5 hg5)
                have HR5 : Hid (Row1 w5 v5 ((b ++ [y]).map bval)) := Lib.hid (by have h := Row1.of_own ho5; simpa using h)
                have HX5 := Lib.hid (ext_own HXA.out HOA.out (Nat.le_refl _) hg5)
                have HP5 := Lib.hid (HPA.out.grown hg5 (fun k hk => own_two HO3A.out HOA.out (by decide) k hk))
                clear ho5 hg5
                go_meet
                exact ⟨(j : Int), (ls.length : Int), b ++ [y], pl, rfl, rfl, by omega, by omega, HR5.out, HP5.out, by have := HYL.out; rw [List.length_append, List.length_singleton]; omega, by have := HPM.out; omega, HX5.out⟩
              · have h1b : decide (what = 1) = false := decide_eq_false h1
                have h1c : (what == 1) = false := beq_false_of_ne h1
                by_cases h2 : what = 2
                · subst h2
                  clear h0 h0b h0c h1 h1b h1c
                  obtain ⟨q, hq⟩ : ∃ q, q = t % ls.length := ⟨_, rfl⟩
                  have hql : q < ls.length := by rw [hq]; exact Nat.mod_lt _ (by omega)
                  have kq1 : (t : Int) % (ls.length : Int) = (q : Int) := by rw [hq]; omega
                  have kq2 : Int.tmod (t : Int) (ls.length : Int) = (q : Int) := by rw [Int.tmod_eq_emod_of_nonneg (by omega)]; exact kq1
                  have n1 : ¬ (ls.length : Int) = 0 := by omega
                  clear hq
                  go_wp2_with fail
                  go_meet
                  exact ⟨(q : Int), (ls.length : Int), b, pl, rfl, rfl, by omega, by omega, HBR.out, HPR.out, by have := HYL.out; omega, by have := HPM.out; omega, HX.out⟩
                · have h2b : decide (what = 2) = false := decide_eq_false h2
                  have h2c : (what == 2) = false := beq_false_of_ne h2
                  by_cases h3 : what = 3
                  · subst h3
                    clear h0 h0b h0c h1 h1b h1c h2 h2b h2c
                    obtain ⟨z, hz⟩ : ∃ z, z = t % 40 := ⟨_, rfl⟩
                    have hzl : z < 40 := by rw [hz]; exact Nat.mod_lt _ (by omega)
                    have kz1 : (t : Int) % 40 = (z : Int) := by rw [hz]; omega
                    have kz2 : Int.tmod (t : Int) 40 = (z : Int) := by rw [Int.tmod_eq_emod_of_nonneg (by omega)]; exact kz1
                    have z0 : (0 : Int) ≤ (z : Int) := Int.natCast_nonneg _
                    have z1 : (z : Int) < 40 := by omega
                    clear hz
                    go_wp2_with fail
                    go_meet
                    exact ⟨(j : Int), 1 + (z : Int), b, pl, rfl, rfl, by omega, by omega, HBR.out, HPR.out, by have := HYL.out; omega, by have := HPM.out; omega, HX.out⟩
                  · have h3b : decide (what = 3) = false := decide_eq_false h3
                    have h3c : (what == 3) = false := beq_false_of_ne h3
                    by_cases h4 : what = 4
                    · subst h4
                      clear h0 h0b h0c h1 h1b h1c h2 h2b h2c h3 h3b h3c
                      have HZ4 := Lib.hid (Blk.made w4 ((smL y).map bval) 26)
                      have e1 := Ext.alloc w4 (.cells ((smL y).map bval).toArray 26)
                      have HOA := Lib.hid (own_below HO3.out e1)
                      have HXA := Lib.hid (HX.out.trans e1)
                      have HBA := Lib.hid (HBR.out.below e1)
                      have HO4A := Lib.hid (own_below HO4.out e1)
                      clear e1
                      go_wp2_with (first
                        | (refine wpList_build_num rfl (some 106) _ _ _ (smL y) rfl rfl Tryd.underlying28 HQ0.out HQ1.out HQ2.out (by rfl) rfl (smL_length y) ?_)
                        | (refine wpList_append_num rfl (some 107) _ _ _ rfl rfl w2.heap.size _ Tryd.underlying28 HQ0.out HQ1.out HQ2.out HQ3.out (by rfl) _ _ _ rfl HOA.out w4.heap.size 1 (smL y) rfl HZ4.out.range (smL_length y) (by have := HPM.out; omega) HXA.out.size ?_; intro v5 w5 ho5 hg5))
                      have HR5 := Lib.hid (RowN.of_own ho5 (Nums.append HPN.out (Nums.one (smL_length y))) (by rw [List.length_append, List.length_singleton]) (by rw [flat_snoc, List.map_append]))
                      have HX5 := Lib.hid (ext_ownS HXA.out HOA.out (Nat.le_refl _) hg5)
                      have HB5 := Lib.hid (HBA.out.grown hg5 (fun k hk => own_two HO4A.out HOA.out (by decide) k hk))
                      clear ho5 hg5
                      go_meet
                      exact ⟨(j : Int), (ls.length : Int), b, pl ++ [smL y], rfl, rfl, by omega, by omega, HB5.out, HR5.out, by have := HYL.out; omega, by have := HPM.out; rw [List.length_append, List.length_singleton]; omega, HX5.out⟩
                    · have h4b : decide (what = 4) = false := decide_eq_false h4
                      have h4c : (what == 4) = false := beq_false_of_ne h4
                      go_wp2_with fail
                      go_meet
                      exact ⟨(j : Int), (ls.length : Int), b, pl, rfl, rfl, by omega, by omega, HBR.out, HPR.out, by have := HYL.out; omega, by have := HPM.out; omega, HX.out⟩
          case rest =>
            obtain ⟨i2, n2, b2, p2, rfl, rfl, ⟨i21, i22⟩, ⟨n21, n22⟩, hb2, hp2, hbl, hpl, hX2⟩ := hcut
            have HX2 := Lib.hid hX2
            have HDC := Lib.hid (ext_blk HD.out hX2)
            have HCA := Lib.hid (fun (wx : World) (hx : Ext wc wx) => MCheck_num r n2 i2 b2 p2 u15 u14 wx HRL.out (by omega) (by omega) (by omega) (by omega) (by omega) (by omega) (hb2.below hx) (hp2.below hx) (HG.out.ext (HE.out.trans (HW.out.trans (hX2.trans hx)))))
            have HCB := Lib.hid (fun (wx : World) (hx : Ext wc wx) => rCheck_any r n2 i2 b2 p2 u15 u14 wx HRL.out (by omega) (by omega) (by omega) (by omega) (by omega) (by omega) (hb2.below hx) (hp2.below hx) (HGK.out.ext (HE.out.trans (HW.out.trans (hX2.trans hx)))))
            generalize merC r n2 i2 b2 p2 = q at *
            clear hb2 hp2 hbl hpl hX2 HO3 HO4 HPR HBR HX
            go_upto_region 19 with (fail)
            have B0 : Ext wc wc.drew := Ext.drew _
            refine wp_region_held_drew (S := fun w' => Ext wc w') (by kernel_rfl) B0 (fun hHeld => ?_)
            refine wpAnyH_take (i := 0) (v := .agg ((r).map bval).toArray) rfl (by kernel_rfl) (by kernel_rfl) (by kernel_rfl) (fun _ _ _ h => h) (yieldsIf_load_mid (by rfl) _ _ rfl D 0 rfl _ _ (fun w h => bl_range HDC.out h) Tryd.underlying26 rfl HIR.out) hHeld ?_
            simp only [Act.put, List.getElem_toArray, List.getElem_cons_zero, List.getElem_cons_succ, List.setIfInBounds_toArray, List.set_cons_zero, List.set_cons_succ]
            refine wpAnyH_take (i := 1) (v := .int .i64 n2) rfl (by kernel_rfl) (by kernel_rfl) (by kernel_rfl) (fun _ _ _ h => h) (yi_move _ (.int .i64 n2) (by rfl) rfl rfl) hHeld ?_
            simp only [Act.put, List.getElem_toArray, List.getElem_cons_zero, List.getElem_cons_succ, List.setIfInBounds_toArray, List.set_cons_zero, List.set_cons_succ]
            refine wpAnyH_take (i := 2) (v := .int .i64 i2) rfl (by kernel_rfl) (by kernel_rfl) (by kernel_rfl) (fun _ _ _ h => h) (yi_move _ (.int .i64 i2) (by rfl) rfl rfl) hHeld ?_
            simp only [Act.put, List.getElem_toArray, List.getElem_cons_zero, List.getElem_cons_succ, List.setIfInBounds_toArray, List.set_cons_zero, List.set_cons_succ]
            refine wpAnyH_take (i := 3) (v := u15) rfl (by kernel_rfl) (by kernel_rfl) (by kernel_rfl) (fun _ _ _ h => h) (yi_move _ (u15) (by rfl) rfl rfl) hHeld ?_
            simp only [Act.put, List.getElem_toArray, List.getElem_cons_zero, List.getElem_cons_succ, List.setIfInBounds_toArray, List.set_cons_zero, List.set_cons_succ]
            refine wpAnyH_take (i := 4) (v := u14) rfl (by kernel_rfl) (by kernel_rfl) (by kernel_rfl) (fun _ _ _ h => h) (yi_move _ (u14) (by rfl) rfl rfl) hHeld ?_
            simp only [Act.put, List.getElem_toArray, List.getElem_cons_zero, List.getElem_cons_succ, List.setIfInBounds_toArray, List.set_cons_zero, List.set_cons_succ]
            refine wpAnyH_take (i := 6) (v := .agg ((r).map bval).toArray) rfl (by kernel_rfl) (by kernel_rfl) (by kernel_rfl) (fun _ _ _ h => h) (yieldsIf_load_mid (by rfl) _ _ rfl D 0 rfl _ _ (fun w h => bl_range HDC.out h) Tryd.underlying26 rfl HIR.out) hHeld ?_
            simp only [Act.put, List.getElem_toArray, List.getElem_cons_zero, List.getElem_cons_succ, List.setIfInBounds_toArray, List.set_cons_zero, List.set_cons_succ]
            refine wpAnyH_take (i := 7) (v := .int .i64 n2) rfl (by kernel_rfl) (by kernel_rfl) (by kernel_rfl) (fun _ _ _ h => h) (yi_move _ (.int .i64 n2) (by rfl) rfl rfl) hHeld ?_
            simp only [Act.put, List.getElem_toArray, List.getElem_cons_zero, List.getElem_cons_succ, List.setIfInBounds_toArray, List.set_cons_zero, List.set_cons_succ]
            refine wpAnyH_take (i := 8) (v := .int .i64 i2) rfl (by kernel_rfl) (by kernel_rfl) (by kernel_rfl) (fun _ _ _ h => h) (yi_move _ (.int .i64 i2) (by rfl) rfl rfl) hHeld ?_
            simp only [Act.put, List.getElem_toArray, List.getElem_cons_zero, List.getElem_cons_succ, List.setIfInBounds_toArray, List.set_cons_zero, List.set_cons_succ]
            refine wpAnyH_take (i := 9) (v := u15) rfl (by kernel_rfl) (by kernel_rfl) (by kernel_rfl) (fun _ _ _ h => h) (yi_move _ (u15) (by rfl) rfl rfl) hHeld ?_
            simp only [Act.put, List.getElem_toArray, List.getElem_cons_zero, List.getElem_cons_succ, List.setIfInBounds_toArray, List.set_cons_zero, List.set_cons_succ]
            refine wpAnyH_take (i := 10) (v := u14) rfl (by kernel_rfl) (by kernel_rfl) (by kernel_rfl) (fun _ _ _ h => h) (yi_move _ (u14) (by rfl) rfl rfl) hHeld ?_
            simp only [Act.put, List.getElem_toArray, List.getElem_cons_zero, List.getElem_cons_succ, List.setIfInBounds_toArray, List.set_cons_zero, List.set_cons_succ]
            refine wpAnyH_ready (rs := [5]) (by kernel_rfl) (by simp) (AllReadyH.cons rfl (fun K hK => ?_) AllReadyH.nil)
            go_simp
            refine (HCA.out wc.drew B0).mono ?_
            rintro e m1 ⟨rfl, b1⟩
            have N1 : Ext wc m1 := B0.trans b1
            refine hK.out _ _ N1 (fun hHeld => ?_)
            clear hK K
            try simp only [Act.put, List.getElem_toArray, List.getElem_cons_zero, List.getElem_cons_succ, List.setIfInBounds_toArray, List.set_cons_zero, List.set_cons_succ]
            refine wpAnyH_ready (rs := [11]) (by kernel_rfl) (by simp) (AllReadyH.cons rfl (fun K hK => ?_) AllReadyH.nil)
            go_simp
            refine (HCB.out m1 N1).mono ?_
            rintro e m2 ⟨rfl, b2⟩
            have N2 : Ext wc m2 := N1.trans b2
            refine hK.out _ _ N2 (fun hHeld => ?_)
            clear hK K
            try simp only [Act.put, List.getElem_toArray, List.getElem_cons_zero, List.getElem_cons_succ, List.setIfInBounds_toArray, List.set_cons_zero, List.set_cons_succ]
            refine wpAnyH_take (i := 12) (v := .bool true) rfl (by kernel_rfl) (by kernel_rfl) (by kernel_rfl) (fun _ _ _ h => h) (yi_eqb _ _ _ _ q q true (by simp) Tryd.underlying4 (by rfl) rfl rfl rfl) hHeld ?_
            simp only [Act.put, List.getElem_toArray, List.getElem_cons_zero, List.getElem_cons_succ, List.setIfInBounds_toArray, List.set_cons_zero, List.set_cons_succ]
            refine wpAnyH_ready (rs := [13]) (by kernel_rfl) (by simp) (AllReadyH.cons rfl (fun K hK => ?_) AllReadyH.nil)
            go_simp
            refine hK.out _ _ N2 (fun hHeld => ?_)
            clear hK K
            try simp only [Act.put, List.getElem_toArray, List.getElem_cons_zero, List.getElem_cons_succ, List.setIfInBounds_toArray, List.set_cons_zero, List.set_cons_succ]
            refine wpAnyH_done (by kernel_rfl) ?_ _
            have HN := Lib.hid (HE.out.trans (HW.out.trans (HX2.out.trans N2)))
            go_wp2_with fail
            go_ret
            exact ⟨rfl, HN.out⟩
end Go.Proofs.YtcadfccijeodbaaDoor
