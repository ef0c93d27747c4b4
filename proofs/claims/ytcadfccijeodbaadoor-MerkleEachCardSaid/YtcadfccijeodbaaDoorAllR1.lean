/- Texts that belong together, one behind the other; each says in its own first remark what it shows. -/
import Derived.Test.YtcadfccijeodbaaDoorLawKit
import Derived.Test.YtcadfccijeodbaaDoorArrKit
import Derived.LaidMore
import Derived.OpenShut
import Derived.Stop.Joined
import Derived.SevenTiedAt
import Derived.Test.YtcadfccijeodbaaDoorRows
import Derived.Test.YtcadfccijeodbaaDoorAllC1
import Derived.Test.YtcadfccijeodbaaDoorHeldMore
import Derived.Test.YtcadfccijeodbaaDoorDetLoad

/- Laws whose rows list package-level variables: what a listed array of whole numbers reads as, and the lift of a law that asks for it. No condition of its own. -/
namespace Go.Proofs.YtcadfccijeodbaaDoor
open Go.ChangeShapes Go.WideShapes Go.ChangeAt Go.WideMaps Go.WideElems Go.RowKit
set_option linter.unusedVariables false

theorem laid_in {P : Program} {w : World} : ∀ {laid : List (String × DataW Unit)} {ps : List MemPlace} {n : String} {d : DataW Unit}, DataW.LaidVars P w laid ps → (n, d) ∈ laid →
    ∃ g t cs fuel p, P.globalNamed n = some g ∧ (P.globals[g]?).map (·.type) = some t ∧ w.var? P n = some cs ∧ DataW.trod (fun _ => ()) P w 0 (fun _ => true) false fuel t cs.toList = some (d, p)
  | [], _, _, _, _, hm => by cases hm
  | (n0, d0) :: r, ps, n, d, h, hm => by
    obtain ⟨g, t, cs, fuel, p, q, h1, h2, h3, h4, h5, _⟩ := h
    rcases List.mem_cons.1 hm with e | hm
    · cases e
      exact ⟨g, t, cs, fuel, p, h1, h2, h3, h4⟩
    · exact laid_in h5 hm

/-- A listed array of whole numbers lies as it is listed. -/
theorem range_of_laid {P : Program} {W : World} {L : List (String × DataW Unit)} {n : String} {g len : Nat} {t e : TypeId} {k : IntKind} {zs : List Int} {d : DataW Unit}
    (hplain : (L.all fun x => x.2.handleName?.isNone) = true) (h : laidMetH P L W) (hm : (n, d) ∈ L) (hd : d = .agg (zs.map fun z => .lit (.int k z)))
    (hg : P.globalNamed n = some g) (ht : (P.globals[g]?).map (·.type) = some t) (hu : P.underlying t = some (.array len e)) (he : P.underlying e = some (.int k)) (hc : P.cellsOf e = 1) (hz : zs.length = len) : W.rangeAt g 0 (ints k zs) := by
  rw [MakeChecks.laidMetH_plain _ _ _ hplain] at h
  obtain ⟨ps, hl, _, _⟩ := h
  obtain ⟨g0, t0, cs0, f0, p0, hg0, ht0, hv0, hd0⟩ := laid_in hl hm
  obtain rfl := Option.some.inj (hg.symm.trans hg0)
  obtain rfl := Option.some.inj (ht.symm.trans ht0)
  obtain ⟨xs, m, rfl, hx1, hlen, hn, hel⟩ := DataW.trod_array hu hd0
  rw [hd] at hx1
  simp only [Prod.mk.injEq, DataW.agg.injEq] at hx1
  intro j v hj
  have hjl : j < len := by
    apply Classical.byContradiction
    intro hn'
    rw [List.getElem?_eq_none (by rw [ints_length]; omega)] at hj
    cases hj
  have h0 := hel j hjl
  rw [hc, Nat.mul_one] at h0
  obtain ⟨x0, hx0⟩ : ∃ x0, xs[j]? = some x0 := ⟨xs[j], List.getElem?_eq_getElem (by omega)⟩
  rw [hx0] at h0
  obtain ⟨q, e1, e2, _⟩ := DataW.trod_int he h0
  have e3 : (zs.map fun z => (DataW.lit (.int k z) : DataW Unit))[j]? = some x0.1 := by rw [hx1.1, List.getElem?_map, hx0]; rfl
  rw [e2, List.getElem?_map] at e3
  have e4 : zs[j]? = some q := by
    cases hr : zs[j]? with
    | none => rw [hr] at e3; cases e3
    | some z => rw [hr] at e3; simpa using e3
  have e5 : v = .int k q := by
    unfold ints at hj
    rw [List.getElem?_map, e4] at hj
    simpa using hj.symm
  have e6 : cs0.toList[j]? = some (.int k q) := by
    have := congrArg (fun l : List Value => l[0]?) e1
    simpa [List.getElem?_take, List.getElem?_drop] using this
  have := World.var?_cell hg0 hv0 j
  rw [Nat.zero_add, this, e5]
  simpa using e6

/-- What a law's walk owes that asks for variables as they are listed. -/
def LawWalkG (G : World → Prop) {H : Type} (enc : TypeId × Value → H) (P : Program) (f : FuncId) (ts : List TypeId) : Prop :=
  ∀ (W : World) (base : Nat) (args : Array Value) (ds : List (DataW H)) (ps : List MemPlace),
    (∀ (j : Nat) (t : TypeId) (v : Value), ts[j]? = some t → args[j]? = some v → Value.okWide P W .any base t v) →
    DataW.TrodAll enc P W 0 (fun _ => true) true ts args.toList ds ps → (∀ x ∈ ps, x.block < W.heap.size) → W.noneFrozen ps → G W →
    Calls P f args W fun e w' => e = .returned (.bool true) ∧ Below W.heap.size W w'

theorem law_lift_tied {G : World → Prop} {H : Type} {enc : TypeId × Value → H} {C : Checked} {os : Os} {f : FuncId} {fn : Func} {s : ChangeSpec} {tb : TypeId} (L : List (String × DataW Unit))
    (own : ownKnob C.prog.godebug = none) (laid : laidOutB C.prog = true) (started : os.Started)
    (hinit : C.prog.inits.idxOf? f = none) (hf : C.prog.funcs[f]? = some fn) (hvars : s.vars = [])
    (hread : (fn.params.toList.all fun t => C.prog.readableRec t && decide (t < C.prog.types.size)) = true)
    (hres : fn.resultTypes = #[tb]) (hb : C.prog.underlying tb = some .bool)
    (hs : ∀ ds : List (DataW H), ds.length = fn.params.toList.length → (s.fn H ds).results = [.lit (.bool true)] ∧ (s.fn H ds).args = ds ∧ (s.fn H ds).vars = [])
    (hwit : ∃ (w : World) (tape : Tape) (i : Input), w.os = os ∧ (w.forCall tape i).Shaped C.prog ∧ i.vars = [] ∧ Input.okWide C.prog (w.forCall tape i) .any w.heap.size f i ∧
      ((s.pre enc C.prog fn [] false (w.forCall tape i).memory i.args ∧ laidMetH C.prog L (w.forCall tape i).memory) ∧ sizedMet enc C.prog fn (OpenSpec.ofChange s) false (w.forCall tape i).memory i.args) ∧ ({} : Assume).holds C.prog (lone (Frame.enter C.prog f i.args .normal) [] (w.forCall tape i)))
    (hglob : ∀ W, laidMetH C.prog L W → G W) (walk : LawWalkG G enc C.prog f fn.params.toList) :
    ReturnsInHanded {} C os f .any (fun w args => (s.pre enc C.prog fn [] false w args ∧ laidMetH C.prog L w) ∧ sizedMet enc C.prog fn (OpenSpec.ofChange s) false w args) (s.post enc C.prog fn false true false false) := by
  refine returnsInHanded_of_change_and (C := C) (X := fun w _ => laidMetH C.prog L w) (fun _ _ _ hh h => h.of_heap hh) own started hinit hf hwit ?_
  intro W base args ds gs before hval hW _ _ hL _
  have hW' := hW
  have hlt := hW.lt
  obtain ⟨p, q, hA, hV, rfl, hfz, hnd⟩ := hW
  rw [hvars] at hV
  obtain ⟨rfl, rfl⟩ := trodVars_none hV
  rw [List.append_nil] at hlt hfz
  have hlen := trodAll_len hA
  obtain ⟨e1, e2, e3⟩ := hs ds hlen
  refine (walk W base args ds p (fun j t v hj hv => hval j t v (by rw [← Array.getElem?_toList]; exact hj) hv) hA hlt hfz (hglob W hL)).mono ?_
  rintro e w' ⟨rfl, hbel⟩
  refine ⟨_, rfl, ds, [], p ++ [], [], p, [], hW', ?_, ?_, ?_, ?_, ?_⟩
  · rw [List.append_nil, e1, hres]
    exact trodAll_mk1 (shut_bool hb _)
  · rw [List.append_nil, e2]
    exact trodAll_stays laid hread hA (fun x hx => hbel.same (hlt x hx)) (fun x hx => by simpa using hlt x hx)
  · rw [hvars, List.append_nil, e3]
    rfl
  · exact hbel.frame _
  · intro h
    cases h

end Go.Proofs.YtcadfccijeodbaaDoor

/- The listed variable of package sha reads as it is listed. Each theorem names its own conditions. -/
namespace Go.Proofs.YtcadfccijeodbaaDoor
open Go.RowKit
set_option linter.unusedVariables false

theorem gRoots : Tryd.prog.globalNamed "portcullis/sha.roots" = some 1 := by kernel_rfl
theorem tRoots : (Tryd.prog.globals[1]?).map (·.type) = some 62 := by kernel_rfl
theorem dRoots : (Rows.laid_portcullis_sha_roots : DataW Unit) = .agg ((ws K256).map fun z => .lit (.int .u32 z)) := by kernel_rfl
theorem globR_of {W : World} {L : List (String × DataW Unit)} (hp : (L.all fun x => x.2.handleName?.isNone) = true) (h : laidMetH Tryd.prog L W) (hm : ("portcullis/sha.roots", Rows.laid_portcullis_sha_roots) ∈ L) : GlobR W :=
  range_of_laid hp h hm dRoots gRoots tRoots Tryd.underlying62 Tryd.underlying47 (by kernel_rfl) (by rw [ws_length]; rfl)
theorem int_both {n : Int} (h : (Lit.int .i64 n).wf = true) : -9223372036854775808 ≤ n ∧ n ≤ 9223372036854775807 := by simpa [Lit.wf, IntKind.min, IntKind.max, IntKind.signed, IntKind.bits] using h
theorem int_lo {n : Int} (h : (Lit.int .i64 n).wf = true) : -9223372036854775808 ≤ n := (int_both h).1
theorem int_hi {n : Int} (h : (Lit.int .i64 n).wf = true) : n ≤ 9223372036854775807 := (int_both h).2

end Go.Proofs.YtcadfccijeodbaaDoor

/- The parameters of a call, five and more. Nothing here speaks of a program. Each theorem names its own conditions. -/
namespace Go.Proofs.YtcadfccijeodbaaDoor
open Go.ChangeShapes Go.WideShapes Go.ChangeAt Go.RowKit
set_option linter.unusedVariables false
set_option linter.unusedSimpArgs false

section
variable {H : Type} {enc : TypeId × Value → H} {P : Program} {w : World} {base : Nat} {spare : Nat → Bool} {held : Bool}
theorem trodAll_five {t0 t1 t2 t3 t4 : TypeId} {args : Array Value} {ds : List (DataW H)} {ps : List MemPlace} (h : DataW.TrodAll enc P w base spare held [t0, t1, t2, t3, t4] args.toList ds ps) :
    ∃ v0 v1 v2 v3 v4 d0 d1 d2 d3 d4 p0 p1 p2 p3 p4, args = #[v0, v1, v2, v3, v4] ∧ ds = [d0, d1, d2, d3, d4] ∧ ps = p0 ++ p1 ++ p2 ++ p3 ++ p4 ∧ DataW.Trod enc P w base spare held t0 v0 d0 p0 ∧ DataW.Trod enc P w base spare held t1 v1 d1 p1 ∧ DataW.Trod enc P w base spare held t2 v2 d2 p2 ∧ DataW.Trod enc P w base spare held t3 v3 d3 p3 ∧ DataW.Trod enc P w base spare held t4 v4 d4 p4 := by
  obtain ⟨v0, vs0, d0, ds0, p0, q0, hargs, rfl, rfl, h0, r0⟩ := trodAll_cons h
  obtain ⟨v1, vs1, d1, ds1, p1, q1, rfl, rfl, rfl, h1, r1⟩ := trodAll_cons r0
  obtain ⟨v2, vs2, d2, ds2, p2, q2, rfl, rfl, rfl, h2, r2⟩ := trodAll_cons r1
  obtain ⟨v3, vs3, d3, ds3, p3, q3, rfl, rfl, rfl, h3, r3⟩ := trodAll_cons r2
  obtain ⟨v4, vs4, d4, ds4, p4, q4, rfl, rfl, rfl, h4, r4⟩ := trodAll_cons r3
  obtain ⟨rfl, rfl, rfl⟩ := trodAll_nil r4
  exact ⟨v0, v1, v2, v3, v4, d0, d1, d2, d3, d4, p0, p1, p2, p3, p4, by cases args; simp_all, rfl, by simp, h0, h1, h2, h3, h4⟩
theorem trodAll_six {t0 t1 t2 t3 t4 t5 : TypeId} {args : Array Value} {ds : List (DataW H)} {ps : List MemPlace} (h : DataW.TrodAll enc P w base spare held [t0, t1, t2, t3, t4, t5] args.toList ds ps) :
    ∃ v0 v1 v2 v3 v4 v5 d0 d1 d2 d3 d4 d5 p0 p1 p2 p3 p4 p5, args = #[v0, v1, v2, v3, v4, v5] ∧ ds = [d0, d1, d2, d3, d4, d5] ∧ ps = p0 ++ p1 ++ p2 ++ p3 ++ p4 ++ p5 ∧ DataW.Trod enc P w base spare held t0 v0 d0 p0 ∧ DataW.Trod enc P w base spare held t1 v1 d1 p1 ∧ DataW.Trod enc P w base spare held t2 v2 d2 p2 ∧ DataW.Trod enc P w base spare held t3 v3 d3 p3 ∧ DataW.Trod enc P w base spare held t4 v4 d4 p4 ∧ DataW.Trod enc P w base spare held t5 v5 d5 p5 := by
  obtain ⟨v0, vs0, d0, ds0, p0, q0, hargs, rfl, rfl, h0, r0⟩ := trodAll_cons h
  obtain ⟨v1, vs1, d1, ds1, p1, q1, rfl, rfl, rfl, h1, r1⟩ := trodAll_cons r0
  obtain ⟨v2, vs2, d2, ds2, p2, q2, rfl, rfl, rfl, h2, r2⟩ := trodAll_cons r1
  obtain ⟨v3, vs3, d3, ds3, p3, q3, rfl, rfl, rfl, h3, r3⟩ := trodAll_cons r2
  obtain ⟨v4, vs4, d4, ds4, p4, q4, rfl, rfl, rfl, h4, r4⟩ := trodAll_cons r3
  obtain ⟨v5, vs5, d5, ds5, p5, q5, rfl, rfl, rfl, h5, r5⟩ := trodAll_cons r4
  obtain ⟨rfl, rfl, rfl⟩ := trodAll_nil r5
  exact ⟨v0, v1, v2, v3, v4, v5, d0, d1, d2, d3, d4, d5, p0, p1, p2, p3, p4, p5, by cases args; simp_all, rfl, by simp, h0, h1, h2, h3, h4, h5⟩
theorem trodAll_seven {t0 t1 t2 t3 t4 t5 t6 : TypeId} {args : Array Value} {ds : List (DataW H)} {ps : List MemPlace} (h : DataW.TrodAll enc P w base spare held [t0, t1, t2, t3, t4, t5, t6] args.toList ds ps) :
    ∃ v0 v1 v2 v3 v4 v5 v6 d0 d1 d2 d3 d4 d5 d6 p0 p1 p2 p3 p4 p5 p6, args = #[v0, v1, v2, v3, v4, v5, v6] ∧ ds = [d0, d1, d2, d3, d4, d5, d6] ∧ ps = p0 ++ p1 ++ p2 ++ p3 ++ p4 ++ p5 ++ p6 ∧ DataW.Trod enc P w base spare held t0 v0 d0 p0 ∧ DataW.Trod enc P w base spare held t1 v1 d1 p1 ∧ DataW.Trod enc P w base spare held t2 v2 d2 p2 ∧ DataW.Trod enc P w base spare held t3 v3 d3 p3 ∧ DataW.Trod enc P w base spare held t4 v4 d4 p4 ∧ DataW.Trod enc P w base spare held t5 v5 d5 p5 ∧ DataW.Trod enc P w base spare held t6 v6 d6 p6 := by
  obtain ⟨v0, vs0, d0, ds0, p0, q0, hargs, rfl, rfl, h0, r0⟩ := trodAll_cons h
  obtain ⟨v1, vs1, d1, ds1, p1, q1, rfl, rfl, rfl, h1, r1⟩ := trodAll_cons r0
  obtain ⟨v2, vs2, d2, ds2, p2, q2, rfl, rfl, rfl, h2, r2⟩ := trodAll_cons r1
  obtain ⟨v3, vs3, d3, ds3, p3, q3, rfl, rfl, rfl, h3, r3⟩ := trodAll_cons r2
  obtain ⟨v4, vs4, d4, ds4, p4, q4, rfl, rfl, rfl, h4, r4⟩ := trodAll_cons r3
  obtain ⟨v5, vs5, d5, ds5, p5, q5, rfl, rfl, rfl, h5, r5⟩ := trodAll_cons r4
  obtain ⟨v6, vs6, d6, ds6, p6, q6, rfl, rfl, rfl, h6, r6⟩ := trodAll_cons r5
  obtain ⟨rfl, rfl, rfl⟩ := trodAll_nil r6
  exact ⟨v0, v1, v2, v3, v4, v5, v6, d0, d1, d2, d3, d4, d5, d6, p0, p1, p2, p3, p4, p5, p6, by cases args; simp_all, rfl, by simp, h0, h1, h2, h3, h4, h5, h6⟩
theorem trodAll_eight {t0 t1 t2 t3 t4 t5 t6 t7 : TypeId} {args : Array Value} {ds : List (DataW H)} {ps : List MemPlace} (h : DataW.TrodAll enc P w base spare held [t0, t1, t2, t3, t4, t5, t6, t7] args.toList ds ps) :
    ∃ v0 v1 v2 v3 v4 v5 v6 v7 d0 d1 d2 d3 d4 d5 d6 d7 p0 p1 p2 p3 p4 p5 p6 p7, args = #[v0, v1, v2, v3, v4, v5, v6, v7] ∧ ds = [d0, d1, d2, d3, d4, d5, d6, d7] ∧ ps = p0 ++ p1 ++ p2 ++ p3 ++ p4 ++ p5 ++ p6 ++ p7 ∧ DataW.Trod enc P w base spare held t0 v0 d0 p0 ∧ DataW.Trod enc P w base spare held t1 v1 d1 p1 ∧ DataW.Trod enc P w base spare held t2 v2 d2 p2 ∧ DataW.Trod enc P w base spare held t3 v3 d3 p3 ∧ DataW.Trod enc P w base spare held t4 v4 d4 p4 ∧ DataW.Trod enc P w base spare held t5 v5 d5 p5 ∧ DataW.Trod enc P w base spare held t6 v6 d6 p6 ∧ DataW.Trod enc P w base spare held t7 v7 d7 p7 := by
  obtain ⟨v0, vs0, d0, ds0, p0, q0, hargs, rfl, rfl, h0, r0⟩ := trodAll_cons h
  obtain ⟨v1, vs1, d1, ds1, p1, q1, rfl, rfl, rfl, h1, r1⟩ := trodAll_cons r0
  obtain ⟨v2, vs2, d2, ds2, p2, q2, rfl, rfl, rfl, h2, r2⟩ := trodAll_cons r1
  obtain ⟨v3, vs3, d3, ds3, p3, q3, rfl, rfl, rfl, h3, r3⟩ := trodAll_cons r2
  obtain ⟨v4, vs4, d4, ds4, p4, q4, rfl, rfl, rfl, h4, r4⟩ := trodAll_cons r3
  obtain ⟨v5, vs5, d5, ds5, p5, q5, rfl, rfl, rfl, h5, r5⟩ := trodAll_cons r4
  obtain ⟨v6, vs6, d6, ds6, p6, q6, rfl, rfl, rfl, h6, r6⟩ := trodAll_cons r5
  obtain ⟨v7, vs7, d7, ds7, p7, q7, rfl, rfl, rfl, h7, r7⟩ := trodAll_cons r6
  obtain ⟨rfl, rfl, rfl⟩ := trodAll_nil r7
  exact ⟨v0, v1, v2, v3, v4, v5, v6, v7, d0, d1, d2, d3, d4, d5, d6, d7, p0, p1, p2, p3, p4, p5, p6, p7, by cases args; simp_all, rfl, by simp, h0, h1, h2, h3, h4, h5, h6, h7⟩
theorem trodAll_nine {t0 t1 t2 t3 t4 t5 t6 t7 t8 : TypeId} {args : Array Value} {ds : List (DataW H)} {ps : List MemPlace} (h : DataW.TrodAll enc P w base spare held [t0, t1, t2, t3, t4, t5, t6, t7, t8] args.toList ds ps) :
    ∃ v0 v1 v2 v3 v4 v5 v6 v7 v8 d0 d1 d2 d3 d4 d5 d6 d7 d8 p0 p1 p2 p3 p4 p5 p6 p7 p8, args = #[v0, v1, v2, v3, v4, v5, v6, v7, v8] ∧ ds = [d0, d1, d2, d3, d4, d5, d6, d7, d8] ∧ ps = p0 ++ p1 ++ p2 ++ p3 ++ p4 ++ p5 ++ p6 ++ p7 ++ p8 ∧ DataW.Trod enc P w base spare held t0 v0 d0 p0 ∧ DataW.Trod enc P w base spare held t1 v1 d1 p1 ∧ DataW.Trod enc P w base spare held t2 v2 d2 p2 ∧ DataW.Trod enc P w base spare held t3 v3 d3 p3 ∧ DataW.Trod enc P w base spare held t4 v4 d4 p4 ∧ DataW.Trod enc P w base spare held t5 v5 d5 p5 ∧ DataW.Trod enc P w base spare held t6 v6 d6 p6 ∧ DataW.Trod enc P w base spare held t7 v7 d7 p7 ∧ DataW.Trod enc P w base spare held t8 v8 d8 p8 := by
  obtain ⟨v0, vs0, d0, ds0, p0, q0, hargs, rfl, rfl, h0, r0⟩ := trodAll_cons h
  obtain ⟨v1, vs1, d1, ds1, p1, q1, rfl, rfl, rfl, h1, r1⟩ := trodAll_cons r0
  obtain ⟨v2, vs2, d2, ds2, p2, q2, rfl, rfl, rfl, h2, r2⟩ := trodAll_cons r1
  obtain ⟨v3, vs3, d3, ds3, p3, q3, rfl, rfl, rfl, h3, r3⟩ := trodAll_cons r2
  obtain ⟨v4, vs4, d4, ds4, p4, q4, rfl, rfl, rfl, h4, r4⟩ := trodAll_cons r3
  obtain ⟨v5, vs5, d5, ds5, p5, q5, rfl, rfl, rfl, h5, r5⟩ := trodAll_cons r4
  obtain ⟨v6, vs6, d6, ds6, p6, q6, rfl, rfl, rfl, h6, r6⟩ := trodAll_cons r5
  obtain ⟨v7, vs7, d7, ds7, p7, q7, rfl, rfl, rfl, h7, r7⟩ := trodAll_cons r6
  obtain ⟨v8, vs8, d8, ds8, p8, q8, rfl, rfl, rfl, h8, r8⟩ := trodAll_cons r7
  obtain ⟨rfl, rfl, rfl⟩ := trodAll_nil r8
  exact ⟨v0, v1, v2, v3, v4, v5, v6, v7, v8, d0, d1, d2, d3, d4, d5, d6, d7, d8, p0, p1, p2, p3, p4, p5, p6, p7, p8, by cases args; simp_all, rfl, by simp, h0, h1, h2, h3, h4, h5, h6, h7, h8⟩
end

end Go.Proofs.YtcadfccijeodbaaDoor

/- Further operations of a held region: greater, not the same, the rest, exclusive or of numbers. Nothing here speaks of a program. Each theorem names its own conditions. -/
namespace Go.Proofs.YtcadfccijeodbaaDoor
open Go.RowKit
set_option linter.unusedVariables false
set_option linter.unusedSimpArgs false

section
variable {P : Program} {ops : Array Oper} {S : World → Prop}
theorem yi_gti {o : Oper} {a : Act} (k : IntKind) (ty rt : TypeId) (x y : Operand) (b c : Int) (r : Bool) (hr : decide (c < b) = r) (hw : Region.wanted o (yielded ops a.tmps) = true) (ho : o.op = .binOp .gtr ty x y rt) (hx : a.eval x = .int k b) (hy : a.eval y = .int k c) : YieldsIf P ops S o (.bool r) a :=
  yi_val _ hw (fun w _ => by
    subst hr
    unfold execOp
    simp only [ho, hx, hy]
    simp [eqGuard, binOp, Op.intCmp, Result.andThen])
theorem yi_nei {o : Oper} {a : Act} (k : IntKind) (ty rt : TypeId) (x y : Operand) (b c : Int) (r : Bool) (hr : decide (b = c) = !r) (hw : Region.wanted o (yielded ops a.tmps) = true) (ho : o.op = .binOp .neq ty x y rt) (hx : a.eval x = .int k b) (hy : a.eval y = .int k c) : YieldsIf P ops S o (.bool r) a :=
  yi_val _ hw (fun w _ => by
    have hr2 : r = !decide (b = c) := by rw [hr, Bool.not_not]
    subst hr2
    unfold execOp
    simp only [ho, hx, hy]
    simp [eqGuard, binOp, Op.intCmp, Result.andThen]
    try rw [Bool.eq_iff_iff]; simp)
end

end Go.Proofs.YtcadfccijeodbaaDoor

/- MerkleEach walks to true. Laid by wip/gen/gmere.py. Each theorem names its own conditions. -/
namespace Go.Proofs.YtcadfccijeodbaaDoor
open Go.RowKit
set_option linter.unusedVariables false
set_option linter.unusedSimpArgs false

/-- The lists of the law. -/
def eL (v : UInt8) (n : Nat) : List (List UInt8) := (List.range n).map fun i => [v, UInt8.ofNat i]
theorem eL_length (v : UInt8) (n : Nat) : (eL v n).length = n := by simp [eL]
theorem eL_get (v : UInt8) {n i : Nat} (h : i < n) : (eL v n)[i]? = some [v, UInt8.ofNat i] := by simp [eL, h]
theorem eL_small (v : UInt8) (n : Nat) : ∀ l ∈ eL v n, l.length = 2 := fun l hl => by
  obtain ⟨i, _, rfl⟩ := List.mem_map.1 hl
  rfl
theorem own_apart {w : World} {base : Nat} {e t : TypeId} {size n b : Nat} {v : Value} {xs cs : List Value} (ho : w.ownsRow base e size v n xs) (hb : Blk w b cs t) (hne : e ≠ t) : v.ownBlock ≠ some b := by
  rcases ho.2 with ⟨rfl, _⟩ | ⟨g, cap, cur, rfl, _, hg, _⟩
  · intro h
    cases h
  · intro h
    have hgb : g = b := Option.some.inj h
    subst hgb
    unfold Blk at hb
    rw [hg] at hb
    injection hb with hb
    injection hb with _ h2 _
    exact hne h2
/-- A row of the law's lists, each in a block of its own. -/
def ERow (wb w : World) (l : Value) (v : UInt8) (k : Nat) (vals : List Value) : Prop :=
  w.ownsRow wb.heap.size 34 1 l k vals ∧ ∀ i x, vals[i]? = some x → ∃ b, x = .slice (some ⟨b, 0, none⟩) 2 2 ∧ Blk w b (([v, UInt8.ofNat i] : List UInt8).map bval) 5
theorem ERow.rowB {wb w : World} {l : Value} {v : UInt8} {k : Nat} {vals : List Value} (h : ERow wb w l v k vals) : RowB w l (eL v k) := by
  have hl : vals.length = k := by simpa using h.1.1
  refine ⟨vals, Row1.of_own h.1, by rw [hl, eL_length], fun i x c hx hc => ?_⟩
  obtain ⟨b, rfl, hb⟩ := h.2 i x hx
  have hik : i < k := by
    rcases Nat.lt_or_ge i k with h' | h'
    · exact h'
    · rw [List.getElem?_eq_none (by omega)] at hx; cases hx
  rw [eL_get v hik] at hc
  obtain rfl := (Option.some.inj hc).symm
  exact blk_row (n := 2) hb rfl (by unfold maxLen; omega)
theorem erow_next {wb wr w4 : World} {l l' : Value} {v : UInt8} {k : Nat} {vals : List Value} {vv kv : Int} (h : ERow wb wr l v k vals) (hv : vv = (v.toNat : Int)) (hk : kv = ((UInt8.ofNat k).toNat : Int))
    (ho : w4.ownsRow wb.heap.size 34 1 l' (k + 1) (vals ++ [.slice (some ⟨wr.heap.size, 0, none⟩) 2 2]))
    (hg : ((wr.alloc (.cells #[.int .u8 vv, .int .u8 kv] 5)).alloc (.cells #[.slice (some ⟨wr.heap.size, 0, none⟩) 2 2] 34)).grownBy w4 l.ownBlock) :
    ERow wb w4 l' v (k + 1) (vals ++ [.slice (some ⟨wr.heap.size, 0, none⟩) 2 2]) := by
  subst hv hk
  have hl : vals.length = k := by simpa using h.1.1
  have e1 := Ext.alloc wr (.cells #[.int .u8 (v.toNat : Int), .int .u8 ((UInt8.ofNat k).toNat : Int)] 5)
  have b1 : Blk (wr.alloc (.cells #[.int .u8 (v.toNat : Int), .int .u8 ((UInt8.ofNat k).toNat : Int)] 5)) wr.heap.size (([v, UInt8.ofNat k] : List UInt8).map bval) 5 := Blk.made wr _ _
  have e2 := Ext.alloc (wr.alloc (.cells #[.int .u8 (v.toNat : Int), .int .u8 ((UInt8.ofNat k).toNat : Int)] 5)) (.cells #[.slice (some ⟨wr.heap.size, 0, none⟩) 2 2] 34)
  have b2 := ext_blk b1 e2
  have o2 := own_below h.1 (e1.trans e2)
  have hne : (34 : TypeId) ≠ 5 := by decide
  refine ⟨ho, fun i x hx => ?_⟩
  rcases Nat.lt_or_ge i k with hi | hi
  · rw [List.getElem?_append_left (by omega)] at hx
    obtain ⟨b, rfl, hb⟩ := h.2 i x hx
    have hb := ext_blk hb (e1.trans e2)
    exact ⟨b, rfl, hb.grown hg (own_apart o2 hb hne)⟩
  · rw [List.getElem?_append_right (by omega)] at hx
    have hik : i = k := by
      rcases Nat.lt_or_ge (i - vals.length) 1 with h' | h'
      · omega
      · rw [List.getElem?_eq_none (by simpa using h')] at hx; cases hx
    subst hik
    rw [hl, Nat.sub_self] at hx
    obtain rfl := (Option.some.inj hx).symm
    exact ⟨_, rfl, b2.grown hg (own_apart o2 b2 hne)⟩
theorem and_pow2 : ∀ n : Fin 41, 1 ≤ n.val → n.val &&& (n.val - 1) = 0 → ∃ j : Fin 7, n.val = 2 ^ j.val := by decide +kernel
theorem and_i64N (a b : Nat) (ha : a < 9223372036854775808) (hb : b < 9223372036854775808) : bits .and .i64 (a : Int) (b : Int) = ((a &&& b : Nat) : Int) := by
  have e1 : (BitVec.ofInt 64 (a : Int)).toNat = a := by rw [BitVec.toNat_ofInt]; omega
  have e2 : (BitVec.ofInt 64 (b : Int)).toNat = b := by rw [BitVec.toNat_ofInt]; omega
  show IntKind.i64.wrap ((BitVec.ofInt 64 (a : Int) &&& BitVec.ofInt 64 (b : Int)).toNat : Nat) = _
  have e3 : a &&& b ≤ a := Nat.and_le_left
  rw [BitVec.toNat_and, e1, e2, IntKind.wrap_i64]
  omega
theorem pow_six {j n : Nat} (h : 2 ^ j < n) (hn : n ≤ 40) : j ≤ 5 := by
  have h1 : 2 ^ j < 2 ^ 6 := by omega
  have := (Nat.pow_lt_pow_iff_right (by decide : 1 < 2)).1 h1
  omega
/-- The least power that is no less. -/
theorem pow_full {j k n : Nat} (hk : n ≤ 2 ^ k) (hl : k = 0 ∨ 2 ^ k < 2 * n) (hn : n = 2 ^ j) : j = k := by
  subst hn
  rcases hl with h | h
  · subst h
    rcases Nat.eq_zero_or_pos j with h | h
    · exact h
    · have := Nat.pow_le_pow_right (n := 2) (by decide) h
      omega
  · have h1 := (Nat.pow_le_pow_iff_right (by decide : 1 < 2)).1 hk
    rw [Nat.mul_comm, ← Nat.pow_succ] at h
    have h2 := (Nat.pow_lt_pow_iff_right (by decide : 1 < 2)).1 h
    omega

set_option maxRecDepth 100000 in
set_option maxHeartbeats 8000000 in
theorem merkleEach_any (n : Int) (v : UInt8) (w : World) (hn1 : -9223372036854775808 ≤ n) (hn2 : n ≤ 9223372036854775807) (hG : MG w) :
    Calls Tryd.prog 6 #[.int .i64 n, .int .u8 (v.toNat : Int)] w fun e w' => e = .returned (.bool true) ∧ Below w.heap.size w w' := by
  obtain ⟨iq, hq0, hq1, hq2, hq3⟩ := info_numz (P := Tryd.prog) (t := 34) (z := .slice none 0 0) (n := 1) (b := 24) (by kernel_rfl)
  have HQ0 := Lib.hid hq0
  have HQ1 := Lib.hid hq1
  have HQ2 := Lib.hid hq2
  have HQ3 := Lib.hid hq3
  have HG := Lib.hid hG
  obtain ⟨vv, hvv⟩ : ∃ vv : Int, vv = (v.toNat : Int) := ⟨_, rfl⟩
  rw [← hvv]
  have HVV := Lib.hid hvv
  clear hG hvv hq0 hq1 hq2 hq3
  go_enter Tryd.func6, Tryd.ntmps6
  go_wp2_with fail
  refine (alive_any15 w HG.out).mono ?_
  rintro e wb ⟨rfl, hb⟩
  have HE : Hid (Ext w wb) := Lib.hid hb
  clear hb
  by_cases c1 : n < 1
  · go_wp2_with fail
    go_ret
    exact ⟨rfl, HE.out⟩
  · by_cases c2 : 40 < n
    · go_wp2_with fail
      go_ret
      exact ⟨rfl, HE.out⟩
    · obtain ⟨m, rfl⟩ : ∃ m : Nat, n = (m : Int) := ⟨n.toNat, by omega⟩
      have m1 : Hid (1 ≤ m ∧ m ≤ 40) := Lib.hid (by omega)
      have m0 : (0 : Int) ≤ (m : Int) := Int.natCast_nonneg _
      clear hn1 hn2
      go_wp2_with fail
      go_loopw [6, 7] (fun l i wr => ∃ (k : Nat) (vals : List Value), k ≤ m ∧ i = .int .i64 (k : Int) ∧ ERow wb wr l v k vals ∧ Ext wb wr) (fun _ i _ => m - (intOf i).toNat)
      case atStart => exact ⟨0, [], Nat.zero_le _, rfl, ⟨World.ownsRow_nil _ _ _ _, fun i x hx => by simp at hx⟩, Ext.refl _⟩
      case round =>
        obtain ⟨k, vals, hk, rfl, her, hX⟩ := hrel
        have HER := Lib.hid her
        have HX := Lib.hid hX
        have k0 : (0 : Int) ≤ (k : Int) := Int.natCast_nonneg _
        clear her hX
        by_cases hkm : k < m
        · have hkm' : (k : Int) < (m : Int) := by omega
          have HKV : Hid ((k : Int) = ((UInt8.ofNat k).toNat : Int)) := Lib.hid (by rw [UInt8.toNat_ofNat']; have := m1.out; omega)
          have e1 := Ext.alloc wr (.cells #[.int .u8 vv, .int .u8 (k : Int)] 5)
          have e2 := Ext.alloc (wr.alloc (.cells #[.int .u8 vv, .int .u8 (k : Int)] 5)) (.cells #[.slice (some ⟨wr.heap.size, 0, none⟩) 2 2] 34)
          have HO2 := Lib.hid (own_below HER.out.1 (e1.trans e2))
          have HS1 : (wr.alloc (.cells #[.int .u8 vv, .int .u8 (k : Int)] 5)).heap.size = wr.heap.size + 1 := by simp
          have HR2 : Hid (Row1 ((wr.alloc (.cells #[.int .u8 vv, .int .u8 (k : Int)] 5)).alloc (.cells #[.slice (some ⟨wr.heap.size, 0, none⟩) 2 2] 34)) (.slice (some ⟨wr.heap.size + 1, 0, none⟩) 1 1) [.slice (some ⟨wr.heap.size, 0, none⟩) 2 2]) := Lib.hid (Row1.made _ #[.slice (some ⟨wr.heap.size, 0, none⟩) 2 2] 34 _ 1 _ HS1 rfl rfl (by unfold maxLen; omega))
          have HXS := Lib.hid (HX.out.trans (e1.trans e2))
          have h256 : (k : Int) < 256 := by have := m1.out; omega
          have hkk : Hid (k ≤ 40) := Lib.hid (by have := m1.out; omega)
          clear e1 e2 HS1
          go_wp2_with (at_builtin; refine wpList_append_row rfl _ _ 22 rfl wb.heap.size 34 iq (.slice none 0 0) 24 Tryd.underlying22 HQ0.out HQ1.out HQ2.out HQ3.out rfl _ _ _ rfl HO2.out rfl HR2.out (fun u hu => by rw [List.mem_singleton.1 hu]; rfl) (by have := hkk.out; rw [List.length_singleton]; unfold maxLen; omega) (by have := hkk.out; rw [List.length_singleton]; omega) HXS.out.size ?_; intro v4 w4 hown4 hgrow4)
          have HN := Lib.hid (erow_next HER.out HVV.out HKV.out hown4 hgrow4)
          have HX4 := Lib.hid (ext_own HXS.out HO2.out (Nat.le_refl _) hgrow4)
          clear hown4 hgrow4
          go_roundw
          case rel => exact ⟨k + 1, _, by omega, by go_num, HN.out, HX4.out⟩
          case measure => simp [intOf]; omega
        · have hkm' : ¬ (k : Int) < (m : Int) := by omega
          obtain rfl : k = m := by omega
          have HV := Lib.hid HER.out.rowB
          obtain ⟨a, cap, hlv, hc1, _⟩ := mer_form HV.out
          rw [eL_length] at hlv hc1
          subst hlv
          have HEL := Lib.hid (eL_length v k)
          have HSM := Lib.hid (eL_small v k)
          have HEG := Lib.hid (fun (i : Nat) (h : i < k) => eL_get v h)
          clear HER hk hkm hkm' c1 c2
          generalize eL v k = ls at *
          have hk1 : (1 : Int) ≤ (k : Int) := by have := m1.out; omega
          have hk40 : (k : Int) ≤ 40 := by have := m1.out; omega
          have HRT := Lib.hid (MRoot_num ls _ wr (fun l hl => by have := HSM.out l hl; omega) (by rw [HEL.out]; omega) HV.out (HG.out.ext (HE.out.trans HX.out)))
          have HPT := Lib.hid (fun (i : Nat) (hi : i < k) (wx : World) (hx : Ext wr wx) => by
            have h := MPath_num ls _ (i : Int) wx (fun l hl => by have := HSM.out l hl; omega) (by rw [HEL.out]; omega) (by omega) (by omega) (HV.out.below hx) (HG.out.ext (HE.out.trans (HX.out.trans hx)))
            rw [decide_eq_true (by rw [HEL.out]; omega), show merPI ls (i : Int) = merP ls i from if_pos (by rw [HEL.out]; omega)] at h
            exact h)
          have HCK := Lib.hid (fun (i : Nat) (hi : i < k) (bv pv : Value) (wx : World) (hx : Ext wr wx) (hb : Row1 wx bv ((ls.getD i []).map bval)) (hp : RowN wx pv (merP ls i)) => by
            have h := MCheck_num (merR ls) (k : Int) (i : Int) (ls.getD i []) (merP ls i) bv pv wx (merR_length ls) (by omega) (by omega) (by omega) (by omega) (by
              have := HSM.out (ls.getD i []) (by rw [List.getD_eq_getElem?_getD, List.getElem?_eq_getElem (by rw [HEL.out]; exact hi)]; exact List.getElem_mem _)
              omega) (by have := merP_most 40 ls i (by rw [HEL.out]; omega); omega) hb hp (HG.out.ext (HE.out.trans (HX.out.trans hx)))
            have hu := merU_root (l := ls) (i := i) (by rw [HEL.out]; exact hi)
            rw [HEL.out] at hu
            rw [merC_in _ _ hi (by omega), hu, decide_eq_true rfl] at h
            exact h)
          have HPM := Lib.hid (fun (i : Nat) => merP_most (l := ls) (i := i))
          have HPF := Lib.hid (fun (i : Nat) => merP_full (l := ls) (i := i))
          have HPN := Lib.hid (fun (i : Nat) => merP_nums ls i)
          have HRL : Hid ((merR ls).length = 32) := Lib.hid (merR_length ls)
          generalize merR ls = r at *
          have HIR := Lib.hid (num_size HRL.out)
          have HLR : Hid ((r.map bval).length = (ints .u8 (List.replicate 32 0)).length) := Lib.hid (by rw [List.length_map, HRL.out, ints_length, List.length_replicate])
          go_wp2_with fail
          go_loop [8] (fun iv => ∃ j : Nat, j ≤ 6 ∧ (j = 0 ∨ 2 ^ j < 2 * k) ∧ iv = .int .i64 (j : Int)) (fun iv => 7 - (intOf iv).toNat)
          case atStart => exact ⟨0, by omega, Or.inl rfl, rfl⟩
          case round =>
            obtain ⟨j, hj, hl, rfl⟩ := hrel
            have j0 : (0 : Int) ≤ (j : Int) := Int.natCast_nonneg _
            have j6 : (j : Int) ≤ 6 := by omega
            obtain ⟨q, hq⟩ : ∃ q, q = 2 ^ j := ⟨_, rfl⟩
            have HQJ : Hid (q = 2 ^ j ∧ (j = 0 ∨ 2 ^ j < 2 * k)) := Lib.hid ⟨hq, hl⟩
            have hw : wrap64 ((2 : Int) ^ j) = (q : Int) := by
              have h64 : 2 ^ j ≤ 2 ^ 6 := Nat.pow_le_pow_right (by decide) hj
              have e : (2 : Int) ^ j = ((2 ^ j : Nat) : Int) := (Int.natCast_pow 2 j).symm
              rw [e, ← hq]
              exact w64n _ (by omega)
            clear hq hl
            by_cases hc : q < k
            · have hc' : (q : Int) < (k : Int) := by omega
              have HJ5 : Hid (j ≤ 5) := Lib.hid (pow_six (by rw [← HQJ.out.1]; exact hc) (by omega))
              have HJN : Hid (2 ^ (j + 1) < 2 * k) := Lib.hid (by rw [Nat.pow_succ, ← HQJ.out.1]; omega)
              go_wp2_with fail
              go_round
              case rel => exact ⟨j + 1, by have := HJ5.out; omega, Or.inr HJN.out, by go_num⟩
              case measure => simp [intOf]; omega
            · have hc' : ¬ (q : Int) < (k : Int) := by omega
              have HKQ : Hid (k ≤ 2 ^ j) := Lib.hid (by rw [← HQJ.out.1]; omega)
              have HFULL := Lib.hid (fun (z : Nat) (h : k = 2 ^ z) => pow_full HKQ.out HQJ.out.2 h)
              go_wp2_with fail
              refine HRT.out.mono ?_
              rintro e w1 ⟨rfl, hb⟩
              have HW : Hid (Ext wr w1) := Lib.hid hb
              have HZ := Lib.hid (Blk.made w1 (ints .u8 (List.replicate 32 0)) 26)
              have HEA := Lib.hid (Ext.alloc w1 (.cells (ints .u8 (List.replicate 32 0)).toArray 26))
              clear hb HRT hw hc hc'
              go_wp2_with (refine wpList_store_blk rfl _ _ _ rfl w1.heap.size (r.map bval) rfl rfl _ _ HZ.out HLR.out HIR.out (bval_one _) ?_; intro w2 hb2 hg2)
              have HXA := Lib.hid (ext_grown HEA.out hg2 (Nat.le_refl _))
              have HW := Lib.hid (HW.out.trans HXA.out)
              have HD := Lib.hid hb2
              generalize w1.heap.size = D at *
              clear hb2 hg2 HZ HEA HXA
              go_loopw [10] (fun iv wr => ∃ i : Nat, i ≤ k ∧ iv = .int .i64 (i : Int) ∧ Ext w2 wr) (fun iv _ => k - (intOf iv).toNat)
              case atStart => exact ⟨0, Nat.zero_le _, rfl, Ext.refl _⟩
              case round =>
                obtain ⟨i, hik, rfl, hX2⟩ := hrel
                have HX2 := Lib.hid hX2
                have HWX := Lib.hid (HW.out.trans hX2)
                have i0 : (0 : Int) ≤ (i : Int) := Int.natCast_nonneg _
                clear hX2
                by_cases hc : i < k
                · have hc' : (i : Int) < (k : Int) := by omega
                  have HPI := Lib.hid (HPT.out i hc wr HWX.out)
                  have HCI := Lib.hid (HCK.out i hc)
                  have HPMI : Hid ((merP ls i).length ≤ j) := Lib.hid (HPM.out i j (by rw [HEL.out]; exact HKQ.out))
                  have HPFI : Hid (k &&& (k - 1) = 0 → (merP ls i).length = j) := Lib.hid (fun h => by
                    obtain ⟨z, hz⟩ := and_pow2 ⟨k, by have := m1.out; omega⟩ (by have := m1.out; show 1 ≤ k; omega) h
                    have hz' : k = 2 ^ z.val := hz
                    have e := HFULL.out _ hz'
                    rw [← e]
                    exact HPF.out i _ (by rw [HEL.out]; exact hz'))
                  have HLS : 0 < ls.length := by rw [HEL.out]; omega
                  obtain ⟨bb, off, hab, hel⟩ := rowB_elem (HV.out.below HWX.out) HLS
                  subst hab
                  obtain ⟨a2, c2', hcc, hr⟩ := hel i (by rw [HEL.out]; exact hc)
                  have HC := Lib.hid hcc
                  have HY := Lib.hid hr
                  clear hel hcc hr HLS
                  generalize merP ls i = pl at *
                  generalize ls.getD i [] = y at *
                  go_wp2_with fail
                  refine HPI.out.mono ?_
                  rintro e w4 ⟨x4, rfl, hr4, hb⟩
                  obtain ⟨ax, cx, rfl, _⟩ := hr4.form
                  have HR4 := Lib.hid hr4
                  have HX2 := Lib.hid (HX2.out.trans hb)
                  have HD4 := Lib.hid (ext_blk HD.out HX2.out)
                  have HC := Lib.hid ((hb.cell (World.block_lt_of_cell? wr _ HC.out)).trans HC.out)
                  have HY := Lib.hid (HY.out.below hb)
                  have HWX := Lib.hid (HWX.out.trans hb)
                  have HNG : Hid (decide ((j : Int) < ((pl.length : Nat) : Int)) = false) := Lib.hid (decide_eq_false (by have := HPMI.out; omega))
                  have HSUB : Hid (IntKind.i64.wrap ((k : Int) - 1) = ((k - 1 : Nat) : Int)) := Lib.hid (by rw [IntKind.wrap_i64]; omega)
                  have HAND := Lib.hid (and_i64N k (k - 1) (by omega) (by omega))
                  clear hb HPI HPMI
                  by_cases hz : k &&& (k - 1) = 0
                  · have HPE := Lib.hid (HPFI.out hz)
                    have HAZ : Hid (decide (((k &&& (k - 1) : Nat) : Int) = 0) = true) := Lib.hid (decide_eq_true (by rw [hz]; rfl))
                    generalize k &&& (k - 1) = az at *
                    generalize k - 1 = k1 at *
                    clear hz HPFI
                    have HNQ : Hid (decide (((pl.length : Nat) : Int) = (j : Int)) = true) := Lib.hid (decide_eq_true (by rw [HPE.out]))
                    go_upto_region 17 with (fail)
                    have B0 : Ext w4 w4.drew := Ext.drew _
                    refine wp_region_held_drew (S := fun w' => Ext w4 w') (by kernel_rfl) B0 (fun hHeld => ?_)
                    refine wpAnyH_take (i := 0) (v := .bool true) rfl (by kernel_rfl) (by kernel_rfl) (by kernel_rfl) (fun _ _ _ h => h) (yi_move _ (.bool true) (by rfl) rfl rfl) hHeld ?_
                    simp only [Act.put, List.getElem_toArray, List.getElem_cons_zero, List.getElem_cons_succ, List.setIfInBounds_toArray, List.set_cons_zero, List.set_cons_succ]
                    refine wpAnyH_take (i := 1) (v := .bool false) rfl (by kernel_rfl) (by kernel_rfl) (by kernel_rfl) (fun _ _ _ h => h) (yi_not _ _ true (by rfl) rfl rfl) hHeld ?_
                    simp only [Act.put, List.getElem_toArray, List.getElem_cons_zero, List.getElem_cons_succ, List.setIfInBounds_toArray, List.set_cons_zero, List.set_cons_succ]
                    refine wpAnyH_take (i := 2) (v := .bool false) rfl (by kernel_rfl) (by kernel_rfl) (by kernel_rfl) (fun _ _ _ h => h) (yi_move _ (.bool false) (by rfl) rfl rfl) hHeld ?_
                    simp only [Act.put, List.getElem_toArray, List.getElem_cons_zero, List.getElem_cons_succ, List.setIfInBounds_toArray, List.set_cons_zero, List.set_cons_succ]
                    refine wpAnyH_take (i := 3) (v := .slice ax pl.length cx) rfl (by kernel_rfl) (by kernel_rfl) (by kernel_rfl) (fun _ _ _ h => h) (yi_move _ (.slice ax pl.length cx) (by rfl) rfl rfl) hHeld ?_
                    simp only [Act.put, List.getElem_toArray, List.getElem_cons_zero, List.getElem_cons_succ, List.setIfInBounds_toArray, List.set_cons_zero, List.set_cons_succ]
                    refine wpAnyH_take (i := 4) (v := .int .i64 ((pl.length : Nat) : Int)) rfl (by kernel_rfl) (by kernel_rfl) (by kernel_rfl) (fun _ _ _ h => h) (yi_val (.int .i64 ((pl.length : Nat) : Int)) (by rfl) (fun w _ => by go_simp)) hHeld ?_
                    simp only [Act.put, List.getElem_toArray, List.getElem_cons_zero, List.getElem_cons_succ, List.setIfInBounds_toArray, List.set_cons_zero, List.set_cons_succ]
                    refine wpAnyH_take (i := 5) (v := .int .i64 (j : Int)) rfl (by kernel_rfl) (by kernel_rfl) (by kernel_rfl) (fun _ _ _ h => h) (yi_move _ (.int .i64 (j : Int)) (by rfl) rfl rfl) hHeld ?_
                    simp only [Act.put, List.getElem_toArray, List.getElem_cons_zero, List.getElem_cons_succ, List.setIfInBounds_toArray, List.set_cons_zero, List.set_cons_succ]
                    refine wpAnyH_take (i := 6) (v := .bool false) rfl (by kernel_rfl) (by kernel_rfl) (by kernel_rfl) (fun _ _ _ h => h) (yi_gti .i64 _ _ _ _ _ _ false (HNG.out) (by rfl) rfl rfl rfl) hHeld ?_
                    simp only [Act.put, List.getElem_toArray, List.getElem_cons_zero, List.getElem_cons_succ, List.setIfInBounds_toArray, List.set_cons_zero, List.set_cons_succ]
                    refine wpAnyH_take (i := 7) (v := .bool false) rfl (by kernel_rfl) (by kernel_rfl) (by kernel_rfl) (fun _ _ _ h => h) (yi_pick _ _ _ false _ (by rfl) rfl rfl rfl) hHeld ?_
                    simp only [Act.put, List.getElem_toArray, List.getElem_cons_zero, List.getElem_cons_succ, List.setIfInBounds_toArray, List.set_cons_zero, List.set_cons_succ]
                    refine wpAnyH_take (i := 8) (v := .bool false) rfl (by kernel_rfl) (by kernel_rfl) (by kernel_rfl) (fun _ _ _ h => h) (yi_move _ (.bool false) (by rfl) rfl rfl) hHeld ?_
                    simp only [Act.put, List.getElem_toArray, List.getElem_cons_zero, List.getElem_cons_succ, List.setIfInBounds_toArray, List.set_cons_zero, List.set_cons_succ]
                    refine wpAnyH_take (i := 9) (v := .int .i64 (k : Int)) rfl (by kernel_rfl) (by kernel_rfl) (by kernel_rfl) (fun _ _ _ h => h) (yi_move _ (.int .i64 (k : Int)) (by rfl) rfl rfl) hHeld ?_
                    simp only [Act.put, List.getElem_toArray, List.getElem_cons_zero, List.getElem_cons_succ, List.setIfInBounds_toArray, List.set_cons_zero, List.set_cons_succ]
                    refine wpAnyH_take (i := 10) (v := .int .i64 (k : Int)) rfl (by kernel_rfl) (by kernel_rfl) (by kernel_rfl) (fun _ _ _ h => h) (yi_move _ (.int .i64 (k : Int)) (by rfl) rfl rfl) hHeld ?_
                    simp only [Act.put, List.getElem_toArray, List.getElem_cons_zero, List.getElem_cons_succ, List.setIfInBounds_toArray, List.set_cons_zero, List.set_cons_succ]
                    refine wpAnyH_take (i := 11) (v := .int .i64 (k1 : Int)) rfl (by kernel_rfl) (by kernel_rfl) (by kernel_rfl) (fun _ _ _ h => h) (yi_sub .i64 _ _ _ _ _ _ (k1 : Int) HSUB.out (by rfl) rfl rfl rfl) hHeld ?_
                    simp only [Act.put, List.getElem_toArray, List.getElem_cons_zero, List.getElem_cons_succ, List.setIfInBounds_toArray, List.set_cons_zero, List.set_cons_succ]
                    refine wpAnyH_take (i := 12) (v := .int .i64 (az : Int)) rfl (by kernel_rfl) (by kernel_rfl) (by kernel_rfl) (fun _ _ _ h => h) (yi_and .i64 _ _ _ _ _ _ _ HAND.out (by rfl) rfl rfl rfl) hHeld ?_
                    simp only [Act.put, List.getElem_toArray, List.getElem_cons_zero, List.getElem_cons_succ, List.setIfInBounds_toArray, List.set_cons_zero, List.set_cons_succ]
                    refine wpAnyH_take (i := 13) (v := .bool true) rfl (by kernel_rfl) (by kernel_rfl) (by kernel_rfl) (fun _ _ _ h => h) (yi_eqi .i64 _ _ _ _ _ _ true (HAZ.out) (by rfl) rfl rfl rfl) hHeld ?_
                    simp only [Act.put, List.getElem_toArray, List.getElem_cons_zero, List.getElem_cons_succ, List.setIfInBounds_toArray, List.set_cons_zero, List.set_cons_succ]
                    refine wpAnyH_take (i := 14) (v := .bool true) rfl (by kernel_rfl) (by kernel_rfl) (by kernel_rfl) (fun _ _ _ h => h) (yi_move _ (.bool true) (by rfl) rfl rfl) hHeld ?_
                    simp only [Act.put, List.getElem_toArray, List.getElem_cons_zero, List.getElem_cons_succ, List.setIfInBounds_toArray, List.set_cons_zero, List.set_cons_succ]
                    refine wpAnyH_take (i := 15) (v := .slice ax pl.length cx) rfl (by kernel_rfl) (by kernel_rfl) (by kernel_rfl) (fun _ _ _ h => h) (yi_move _ (.slice ax pl.length cx) (by rfl) rfl rfl) hHeld ?_
                    simp only [Act.put, List.getElem_toArray, List.getElem_cons_zero, List.getElem_cons_succ, List.setIfInBounds_toArray, List.set_cons_zero, List.set_cons_succ]
                    refine wpAnyH_take (i := 16) (v := .int .i64 ((pl.length : Nat) : Int)) rfl (by kernel_rfl) (by kernel_rfl) (by kernel_rfl) (fun _ _ _ h => h) (yi_val (.int .i64 ((pl.length : Nat) : Int)) (by rfl) (fun w _ => by go_simp)) hHeld ?_
                    simp only [Act.put, List.getElem_toArray, List.getElem_cons_zero, List.getElem_cons_succ, List.setIfInBounds_toArray, List.set_cons_zero, List.set_cons_succ]
                    refine wpAnyH_take (i := 17) (v := .int .i64 (j : Int)) rfl (by kernel_rfl) (by kernel_rfl) (by kernel_rfl) (fun _ _ _ h => h) (yi_move _ (.int .i64 (j : Int)) (by rfl) rfl rfl) hHeld ?_
                    simp only [Act.put, List.getElem_toArray, List.getElem_cons_zero, List.getElem_cons_succ, List.setIfInBounds_toArray, List.set_cons_zero, List.set_cons_succ]
                    refine wpAnyH_take (i := 18) (v := .bool false) rfl (by kernel_rfl) (by kernel_rfl) (by kernel_rfl) (fun _ _ _ h => h) (yi_nei .i64 _ _ _ _ _ _ false (HNQ.out) (by rfl) rfl rfl rfl) hHeld ?_
                    simp only [Act.put, List.getElem_toArray, List.getElem_cons_zero, List.getElem_cons_succ, List.setIfInBounds_toArray, List.set_cons_zero, List.set_cons_succ]
                    refine wpAnyH_take (i := 19) (v := .bool false) rfl (by kernel_rfl) (by kernel_rfl) (by kernel_rfl) (fun _ _ _ h => h) (yi_pick _ _ _ true _ (by rfl) rfl rfl rfl) hHeld ?_
                    simp only [Act.put, List.getElem_toArray, List.getElem_cons_zero, List.getElem_cons_succ, List.setIfInBounds_toArray, List.set_cons_zero, List.set_cons_succ]
                    refine wpAnyH_take (i := 20) (v := .bool false) rfl (by kernel_rfl) (by kernel_rfl) (by kernel_rfl) (fun _ _ _ h => h) (yi_pick _ _ _ false _ (by rfl) rfl rfl rfl) hHeld ?_
                    simp only [Act.put, List.getElem_toArray, List.getElem_cons_zero, List.getElem_cons_succ, List.setIfInBounds_toArray, List.set_cons_zero, List.set_cons_succ]
                    refine wpAnyH_take (i := 21) (v := .bool false) rfl (by kernel_rfl) (by kernel_rfl) (by kernel_rfl) (fun _ _ _ h => h) (yi_move _ (.bool false) (by rfl) rfl rfl) hHeld ?_
                    simp only [Act.put, List.getElem_toArray, List.getElem_cons_zero, List.getElem_cons_succ, List.setIfInBounds_toArray, List.set_cons_zero, List.set_cons_succ]
                    refine wpAnyH_take (i := 22) (v := .agg ((r).map bval).toArray) rfl (by kernel_rfl) (by kernel_rfl) (by kernel_rfl) (fun _ _ _ h => h) (yieldsIf_load_mid (by rfl) _ _ rfl D 0 rfl _ _ (fun w h => bl_range HD4.out h) Tryd.underlying26 rfl HIR.out) hHeld ?_
                    simp only [Act.put, List.getElem_toArray, List.getElem_cons_zero, List.getElem_cons_succ, List.setIfInBounds_toArray, List.set_cons_zero, List.set_cons_succ]
                    refine wpAnyH_take (i := 23) (v := .int .i64 (k : Int)) rfl (by kernel_rfl) (by kernel_rfl) (by kernel_rfl) (fun _ _ _ h => h) (yi_move _ (.int .i64 (k : Int)) (by rfl) rfl rfl) hHeld ?_
                    simp only [Act.put, List.getElem_toArray, List.getElem_cons_zero, List.getElem_cons_succ, List.setIfInBounds_toArray, List.set_cons_zero, List.set_cons_succ]
                    refine wpAnyH_take (i := 24) (v := .int .i64 (i : Int)) rfl (by kernel_rfl) (by kernel_rfl) (by kernel_rfl) (fun _ _ _ h => h) (yi_move _ (.int .i64 (i : Int)) (by rfl) rfl rfl) hHeld ?_
                    simp only [Act.put, List.getElem_toArray, List.getElem_cons_zero, List.getElem_cons_succ, List.setIfInBounds_toArray, List.set_cons_zero, List.set_cons_succ]
                    refine wpAnyH_take (i := 25) (v := .slice (some ⟨bb, off, none⟩) k cap) rfl (by kernel_rfl) (by kernel_rfl) (by kernel_rfl) (fun _ _ _ h => h) (yi_move _ (.slice (some ⟨bb, off, none⟩) k cap) (by rfl) rfl rfl) hHeld ?_
                    simp only [Act.put, List.getElem_toArray, List.getElem_cons_zero, List.getElem_cons_succ, List.setIfInBounds_toArray, List.set_cons_zero, List.set_cons_succ]
                    refine wpAnyH_take (i := 26) (v := .int .i64 (i : Int)) rfl (by kernel_rfl) (by kernel_rfl) (by kernel_rfl) (fun _ _ _ h => h) (yi_move _ (.int .i64 (i : Int)) (by rfl) rfl rfl) hHeld ?_
                    simp only [Act.put, List.getElem_toArray, List.getElem_cons_zero, List.getElem_cons_succ, List.setIfInBounds_toArray, List.set_cons_zero, List.set_cons_succ]
                    refine wpAnyH_take (i := 27) (v := .pointer (some ⟨bb, off + i, none⟩)) rfl (by kernel_rfl) (by kernel_rfl) (by kernel_rfl) (fun _ _ _ h => h) (yi_val (.pointer (some ⟨bb, off + i, none⟩)) (by rfl) (fun w _ => by go_simp)) hHeld ?_
                    simp only [Act.put, List.getElem_toArray, List.getElem_cons_zero, List.getElem_cons_succ, List.setIfInBounds_toArray, List.set_cons_zero, List.set_cons_succ]
                    refine wpAnyH_take (i := 28) (v := .slice a2 y.length c2') rfl (by kernel_rfl) (by kernel_rfl) (by kernel_rfl) (fun _ _ _ h => h) (yi_val (.slice a2 y.length c2') (by rfl) (fun w h => by have hc := (Below.cell h (World.block_lt_of_cell? w4 _ HC.out)).trans HC.out; go_simp)) hHeld ?_
                    simp only [Act.put, List.getElem_toArray, List.getElem_cons_zero, List.getElem_cons_succ, List.setIfInBounds_toArray, List.set_cons_zero, List.set_cons_succ]
                    refine wpAnyH_take (i := 29) (v := .slice ax pl.length cx) rfl (by kernel_rfl) (by kernel_rfl) (by kernel_rfl) (fun _ _ _ h => h) (yi_move _ (.slice ax pl.length cx) (by rfl) rfl rfl) hHeld ?_
                    simp only [Act.put, List.getElem_toArray, List.getElem_cons_zero, List.getElem_cons_succ, List.setIfInBounds_toArray, List.set_cons_zero, List.set_cons_succ]
                    refine wpAnyH_ready (rs := [30]) (by kernel_rfl) (by simp) (AllReadyH.cons rfl (fun K hK => ?_) AllReadyH.nil)
                    go_simp
                    refine (HCI.out _ _ w4.drew (HWX.out.trans B0) (HY.out.below B0) (HR4.out.below B0)).mono ?_
                    rintro e m1 ⟨rfl, b1⟩
                    have N1 : Ext w4 m1 := B0.trans b1
                    refine hK.out _ _ N1 (fun hHeld => ?_)
                    clear hK K
                    try simp only [Act.put, List.getElem_toArray, List.getElem_cons_zero, List.getElem_cons_succ, List.setIfInBounds_toArray, List.set_cons_zero, List.set_cons_succ]
                    refine wpAnyH_take (i := 31) (v := .bool false) rfl (by kernel_rfl) (by kernel_rfl) (by kernel_rfl) (fun _ _ _ h => h) (yi_not _ _ true (by rfl) rfl rfl) hHeld ?_
                    simp only [Act.put, List.getElem_toArray, List.getElem_cons_zero, List.getElem_cons_succ, List.setIfInBounds_toArray, List.set_cons_zero, List.set_cons_succ]
                    refine wpAnyH_take (i := 32) (v := .bool false) rfl (by kernel_rfl) (by kernel_rfl) (by kernel_rfl) (fun _ _ _ h => h) (yi_pick _ _ _ false _ (by rfl) rfl rfl rfl) hHeld ?_
                    simp only [Act.put, List.getElem_toArray, List.getElem_cons_zero, List.getElem_cons_succ, List.setIfInBounds_toArray, List.set_cons_zero, List.set_cons_succ]
                    refine wpAnyH_done (by kernel_rfl) ?_ _
                    have HX2 := Lib.hid (HX2.out.trans N1)
                    generalize m1 = w5 at HX2 ⊢
                    go_wp2_with fail
                    go_roundw
                    case rel => exact ⟨i + 1, by omega, by go_num, HX2.out⟩
                    case measure => simp [intOf]; omega
                  · have HAZ : Hid (decide (((k &&& (k - 1) : Nat) : Int) = 0) = false) := Lib.hid (decide_eq_false (by omega))
                    generalize k &&& (k - 1) = az at *
                    generalize k - 1 = k1 at *
                    clear hz HPFI
                    go_upto_region 17 with (fail)
                    have B0 : Ext w4 w4.drew := Ext.drew _
                    refine wp_region_held_drew (S := fun w' => Ext w4 w') (by kernel_rfl) B0 (fun hHeld => ?_)
                    refine wpAnyH_take (i := 0) (v := .bool true) rfl (by kernel_rfl) (by kernel_rfl) (by kernel_rfl) (fun _ _ _ h => h) (yi_move _ (.bool true) (by rfl) rfl rfl) hHeld ?_
                    simp only [Act.put, List.getElem_toArray, List.getElem_cons_zero, List.getElem_cons_succ, List.setIfInBounds_toArray, List.set_cons_zero, List.set_cons_succ]
                    refine wpAnyH_take (i := 1) (v := .bool false) rfl (by kernel_rfl) (by kernel_rfl) (by kernel_rfl) (fun _ _ _ h => h) (yi_not _ _ true (by rfl) rfl rfl) hHeld ?_
                    simp only [Act.put, List.getElem_toArray, List.getElem_cons_zero, List.getElem_cons_succ, List.setIfInBounds_toArray, List.set_cons_zero, List.set_cons_succ]
                    refine wpAnyH_take (i := 2) (v := .bool false) rfl (by kernel_rfl) (by kernel_rfl) (by kernel_rfl) (fun _ _ _ h => h) (yi_move _ (.bool false) (by rfl) rfl rfl) hHeld ?_
                    simp only [Act.put, List.getElem_toArray, List.getElem_cons_zero, List.getElem_cons_succ, List.setIfInBounds_toArray, List.set_cons_zero, List.set_cons_succ]
                    refine wpAnyH_take (i := 3) (v := .slice ax pl.length cx) rfl (by kernel_rfl) (by kernel_rfl) (by kernel_rfl) (fun _ _ _ h => h) (yi_move _ (.slice ax pl.length cx) (by rfl) rfl rfl) hHeld ?_
                    simp only [Act.put, List.getElem_toArray, List.getElem_cons_zero, List.getElem_cons_succ, List.setIfInBounds_toArray, List.set_cons_zero, List.set_cons_succ]
                    refine wpAnyH_take (i := 4) (v := .int .i64 ((pl.length : Nat) : Int)) rfl (by kernel_rfl) (by kernel_rfl) (by kernel_rfl) (fun _ _ _ h => h) (yi_val (.int .i64 ((pl.length : Nat) : Int)) (by rfl) (fun w _ => by go_simp)) hHeld ?_
                    simp only [Act.put, List.getElem_toArray, List.getElem_cons_zero, List.getElem_cons_succ, List.setIfInBounds_toArray, List.set_cons_zero, List.set_cons_succ]
                    refine wpAnyH_take (i := 5) (v := .int .i64 (j : Int)) rfl (by kernel_rfl) (by kernel_rfl) (by kernel_rfl) (fun _ _ _ h => h) (yi_move _ (.int .i64 (j : Int)) (by rfl) rfl rfl) hHeld ?_
                    simp only [Act.put, List.getElem_toArray, List.getElem_cons_zero, List.getElem_cons_succ, List.setIfInBounds_toArray, List.set_cons_zero, List.set_cons_succ]
                    refine wpAnyH_take (i := 6) (v := .bool false) rfl (by kernel_rfl) (by kernel_rfl) (by kernel_rfl) (fun _ _ _ h => h) (yi_gti .i64 _ _ _ _ _ _ false (HNG.out) (by rfl) rfl rfl rfl) hHeld ?_
                    simp only [Act.put, List.getElem_toArray, List.getElem_cons_zero, List.getElem_cons_succ, List.setIfInBounds_toArray, List.set_cons_zero, List.set_cons_succ]
                    refine wpAnyH_take (i := 7) (v := .bool false) rfl (by kernel_rfl) (by kernel_rfl) (by kernel_rfl) (fun _ _ _ h => h) (yi_pick _ _ _ false _ (by rfl) rfl rfl rfl) hHeld ?_
                    simp only [Act.put, List.getElem_toArray, List.getElem_cons_zero, List.getElem_cons_succ, List.setIfInBounds_toArray, List.set_cons_zero, List.set_cons_succ]
                    refine wpAnyH_take (i := 8) (v := .bool false) rfl (by kernel_rfl) (by kernel_rfl) (by kernel_rfl) (fun _ _ _ h => h) (yi_move _ (.bool false) (by rfl) rfl rfl) hHeld ?_
                    simp only [Act.put, List.getElem_toArray, List.getElem_cons_zero, List.getElem_cons_succ, List.setIfInBounds_toArray, List.set_cons_zero, List.set_cons_succ]
                    refine wpAnyH_take (i := 9) (v := .int .i64 (k : Int)) rfl (by kernel_rfl) (by kernel_rfl) (by kernel_rfl) (fun _ _ _ h => h) (yi_move _ (.int .i64 (k : Int)) (by rfl) rfl rfl) hHeld ?_
                    simp only [Act.put, List.getElem_toArray, List.getElem_cons_zero, List.getElem_cons_succ, List.setIfInBounds_toArray, List.set_cons_zero, List.set_cons_succ]
                    refine wpAnyH_take (i := 10) (v := .int .i64 (k : Int)) rfl (by kernel_rfl) (by kernel_rfl) (by kernel_rfl) (fun _ _ _ h => h) (yi_move _ (.int .i64 (k : Int)) (by rfl) rfl rfl) hHeld ?_
                    simp only [Act.put, List.getElem_toArray, List.getElem_cons_zero, List.getElem_cons_succ, List.setIfInBounds_toArray, List.set_cons_zero, List.set_cons_succ]
                    refine wpAnyH_take (i := 11) (v := .int .i64 (k1 : Int)) rfl (by kernel_rfl) (by kernel_rfl) (by kernel_rfl) (fun _ _ _ h => h) (yi_sub .i64 _ _ _ _ _ _ (k1 : Int) HSUB.out (by rfl) rfl rfl rfl) hHeld ?_
                    simp only [Act.put, List.getElem_toArray, List.getElem_cons_zero, List.getElem_cons_succ, List.setIfInBounds_toArray, List.set_cons_zero, List.set_cons_succ]
                    refine wpAnyH_take (i := 12) (v := .int .i64 (az : Int)) rfl (by kernel_rfl) (by kernel_rfl) (by kernel_rfl) (fun _ _ _ h => h) (yi_and .i64 _ _ _ _ _ _ _ HAND.out (by rfl) rfl rfl rfl) hHeld ?_
                    simp only [Act.put, List.getElem_toArray, List.getElem_cons_zero, List.getElem_cons_succ, List.setIfInBounds_toArray, List.set_cons_zero, List.set_cons_succ]
                    refine wpAnyH_take (i := 13) (v := .bool false) rfl (by kernel_rfl) (by kernel_rfl) (by kernel_rfl) (fun _ _ _ h => h) (yi_eqi .i64 _ _ _ _ _ _ false (HAZ.out) (by rfl) rfl rfl rfl) hHeld ?_
                    simp only [Act.put, List.getElem_toArray, List.getElem_cons_zero, List.getElem_cons_succ, List.setIfInBounds_toArray, List.set_cons_zero, List.set_cons_succ]
                    refine wpAnyH_take (i := 14) (v := .bool false) rfl (by kernel_rfl) (by kernel_rfl) (by kernel_rfl) (fun _ _ _ h => h) (yi_move _ (.bool false) (by rfl) rfl rfl) hHeld ?_
                    simp only [Act.put, List.getElem_toArray, List.getElem_cons_zero, List.getElem_cons_succ, List.setIfInBounds_toArray, List.set_cons_zero, List.set_cons_succ]
                    refine wpAnyH_take (i := 15) (v := undef) rfl (by kernel_rfl) (by kernel_rfl) (by kernel_rfl) (fun _ _ _ h => h) (yi_skip (by rfl)) hHeld ?_
                    simp only [Act.put, List.getElem_toArray, List.getElem_cons_zero, List.getElem_cons_succ, List.setIfInBounds_toArray, List.set_cons_zero, List.set_cons_succ]
                    refine wpAnyH_take (i := 16) (v := undef) rfl (by kernel_rfl) (by kernel_rfl) (by kernel_rfl) (fun _ _ _ h => h) (yi_skip (by rfl)) hHeld ?_
                    simp only [Act.put, List.getElem_toArray, List.getElem_cons_zero, List.getElem_cons_succ, List.setIfInBounds_toArray, List.set_cons_zero, List.set_cons_succ]
                    refine wpAnyH_take (i := 17) (v := undef) rfl (by kernel_rfl) (by kernel_rfl) (by kernel_rfl) (fun _ _ _ h => h) (yi_skip (by rfl)) hHeld ?_
                    simp only [Act.put, List.getElem_toArray, List.getElem_cons_zero, List.getElem_cons_succ, List.setIfInBounds_toArray, List.set_cons_zero, List.set_cons_succ]
                    refine wpAnyH_take (i := 18) (v := undef) rfl (by kernel_rfl) (by kernel_rfl) (by kernel_rfl) (fun _ _ _ h => h) (yi_skip (by rfl)) hHeld ?_
                    simp only [Act.put, List.getElem_toArray, List.getElem_cons_zero, List.getElem_cons_succ, List.setIfInBounds_toArray, List.set_cons_zero, List.set_cons_succ]
                    refine wpAnyH_take (i := 19) (v := .bool false) rfl (by kernel_rfl) (by kernel_rfl) (by kernel_rfl) (fun _ _ _ h => h) (yi_pick _ _ _ false _ (by rfl) rfl rfl rfl) hHeld ?_
                    simp only [Act.put, List.getElem_toArray, List.getElem_cons_zero, List.getElem_cons_succ, List.setIfInBounds_toArray, List.set_cons_zero, List.set_cons_succ]
                    refine wpAnyH_take (i := 20) (v := .bool false) rfl (by kernel_rfl) (by kernel_rfl) (by kernel_rfl) (fun _ _ _ h => h) (yi_pick _ _ _ false _ (by rfl) rfl rfl rfl) hHeld ?_
                    simp only [Act.put, List.getElem_toArray, List.getElem_cons_zero, List.getElem_cons_succ, List.setIfInBounds_toArray, List.set_cons_zero, List.set_cons_succ]
                    refine wpAnyH_take (i := 21) (v := .bool false) rfl (by kernel_rfl) (by kernel_rfl) (by kernel_rfl) (fun _ _ _ h => h) (yi_move _ (.bool false) (by rfl) rfl rfl) hHeld ?_
                    simp only [Act.put, List.getElem_toArray, List.getElem_cons_zero, List.getElem_cons_succ, List.setIfInBounds_toArray, List.set_cons_zero, List.set_cons_succ]
                    refine wpAnyH_take (i := 22) (v := .agg ((r).map bval).toArray) rfl (by kernel_rfl) (by kernel_rfl) (by kernel_rfl) (fun _ _ _ h => h) (yieldsIf_load_mid (by rfl) _ _ rfl D 0 rfl _ _ (fun w h => bl_range HD4.out h) Tryd.underlying26 rfl HIR.out) hHeld ?_
                    simp only [Act.put, List.getElem_toArray, List.getElem_cons_zero, List.getElem_cons_succ, List.setIfInBounds_toArray, List.set_cons_zero, List.set_cons_succ]
                    refine wpAnyH_take (i := 23) (v := .int .i64 (k : Int)) rfl (by kernel_rfl) (by kernel_rfl) (by kernel_rfl) (fun _ _ _ h => h) (yi_move _ (.int .i64 (k : Int)) (by rfl) rfl rfl) hHeld ?_
                    simp only [Act.put, List.getElem_toArray, List.getElem_cons_zero, List.getElem_cons_succ, List.setIfInBounds_toArray, List.set_cons_zero, List.set_cons_succ]
                    refine wpAnyH_take (i := 24) (v := .int .i64 (i : Int)) rfl (by kernel_rfl) (by kernel_rfl) (by kernel_rfl) (fun _ _ _ h => h) (yi_move _ (.int .i64 (i : Int)) (by rfl) rfl rfl) hHeld ?_
                    simp only [Act.put, List.getElem_toArray, List.getElem_cons_zero, List.getElem_cons_succ, List.setIfInBounds_toArray, List.set_cons_zero, List.set_cons_succ]
                    refine wpAnyH_take (i := 25) (v := .slice (some ⟨bb, off, none⟩) k cap) rfl (by kernel_rfl) (by kernel_rfl) (by kernel_rfl) (fun _ _ _ h => h) (yi_move _ (.slice (some ⟨bb, off, none⟩) k cap) (by rfl) rfl rfl) hHeld ?_
                    simp only [Act.put, List.getElem_toArray, List.getElem_cons_zero, List.getElem_cons_succ, List.setIfInBounds_toArray, List.set_cons_zero, List.set_cons_succ]
                    refine wpAnyH_take (i := 26) (v := .int .i64 (i : Int)) rfl (by kernel_rfl) (by kernel_rfl) (by kernel_rfl) (fun _ _ _ h => h) (yi_move _ (.int .i64 (i : Int)) (by rfl) rfl rfl) hHeld ?_
                    simp only [Act.put, List.getElem_toArray, List.getElem_cons_zero, List.getElem_cons_succ, List.setIfInBounds_toArray, List.set_cons_zero, List.set_cons_succ]
                    refine wpAnyH_take (i := 27) (v := .pointer (some ⟨bb, off + i, none⟩)) rfl (by kernel_rfl) (by kernel_rfl) (by kernel_rfl) (fun _ _ _ h => h) (yi_val (.pointer (some ⟨bb, off + i, none⟩)) (by rfl) (fun w _ => by go_simp)) hHeld ?_
                    simp only [Act.put, List.getElem_toArray, List.getElem_cons_zero, List.getElem_cons_succ, List.setIfInBounds_toArray, List.set_cons_zero, List.set_cons_succ]
                    refine wpAnyH_take (i := 28) (v := .slice a2 y.length c2') rfl (by kernel_rfl) (by kernel_rfl) (by kernel_rfl) (fun _ _ _ h => h) (yi_val (.slice a2 y.length c2') (by rfl) (fun w h => by have hc := (Below.cell h (World.block_lt_of_cell? w4 _ HC.out)).trans HC.out; go_simp)) hHeld ?_
                    simp only [Act.put, List.getElem_toArray, List.getElem_cons_zero, List.getElem_cons_succ, List.setIfInBounds_toArray, List.set_cons_zero, List.set_cons_succ]
                    refine wpAnyH_take (i := 29) (v := .slice ax pl.length cx) rfl (by kernel_rfl) (by kernel_rfl) (by kernel_rfl) (fun _ _ _ h => h) (yi_move _ (.slice ax pl.length cx) (by rfl) rfl rfl) hHeld ?_
                    simp only [Act.put, List.getElem_toArray, List.getElem_cons_zero, List.getElem_cons_succ, List.setIfInBounds_toArray, List.set_cons_zero, List.set_cons_succ]
                    refine wpAnyH_ready (rs := [30]) (by kernel_rfl) (by simp) (AllReadyH.cons rfl (fun K hK => ?_) AllReadyH.nil)
                    go_simp
                    refine (HCI.out _ _ w4.drew (HWX.out.trans B0) (HY.out.below B0) (HR4.out.below B0)).mono ?_
                    rintro e m1 ⟨rfl, b1⟩
                    have N1 : Ext w4 m1 := B0.trans b1
                    refine hK.out _ _ N1 (fun hHeld => ?_)
                    clear hK K
                    try simp only [Act.put, List.getElem_toArray, List.getElem_cons_zero, List.getElem_cons_succ, List.setIfInBounds_toArray, List.set_cons_zero, List.set_cons_succ]
                    refine wpAnyH_take (i := 31) (v := .bool false) rfl (by kernel_rfl) (by kernel_rfl) (by kernel_rfl) (fun _ _ _ h => h) (yi_not _ _ true (by rfl) rfl rfl) hHeld ?_
                    simp only [Act.put, List.getElem_toArray, List.getElem_cons_zero, List.getElem_cons_succ, List.setIfInBounds_toArray, List.set_cons_zero, List.set_cons_succ]
                    refine wpAnyH_take (i := 32) (v := .bool false) rfl (by kernel_rfl) (by kernel_rfl) (by kernel_rfl) (fun _ _ _ h => h) (yi_pick _ _ _ false _ (by rfl) rfl rfl rfl) hHeld ?_
                    simp only [Act.put, List.getElem_toArray, List.getElem_cons_zero, List.getElem_cons_succ, List.setIfInBounds_toArray, List.set_cons_zero, List.set_cons_succ]
                    refine wpAnyH_done (by kernel_rfl) ?_ _
                    have HX2 := Lib.hid (HX2.out.trans N1)
                    generalize m1 = w5 at HX2 ⊢
                    go_wp2_with fail
                    go_roundw
                    case rel => exact ⟨i + 1, by omega, by go_num, HX2.out⟩
                    case measure => simp [intOf]; omega
                · have hc' : ¬ (i : Int) < (k : Int) := by omega
                  go_wp2_with fail
                  go_ret
                  exact ⟨rfl, HE.out.trans (HX.out.trans HWX.out)⟩

end Go.Proofs.YtcadfccijeodbaaDoor
