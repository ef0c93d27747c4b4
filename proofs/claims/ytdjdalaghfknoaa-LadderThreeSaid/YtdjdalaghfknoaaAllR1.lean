/- Texts that belong together, one behind the other; each says in its own first remark what it shows. -/
import Derived.Test.YtdjdalaghfknoaaRows
import Derived.Test.YtdjdalaghfknoaaRowKit
import Derived.WalkKit
import Derived.ProofKit
import Derived.Deep.Slices
import Derived.Laws.Cover2
import Derived.OpenShut
import Derived.Test.YtdjdalaghfknoaaByteKit
import Derived.Test.YtdjdalaghfknoaaAllC2
import Derived.Test.YtdjdalaghfknoaaHeldMore
import Derived.Deep.CutRange

/- A law whose every call returns true and leaves all that was there as it was holds as a row: one theorem for every law, whatever its parameters' types. No condition of its own. -/
namespace Go.Proofs.Ytdjdalaghfknoaa
open Go.ChangeShapes Go.WideShapes Go.ChangeAt Go.RowKit

theorem trodAll_len {H : Type} {enc : TypeId × Value → H} {P : Program} {w : World} {base : Nat} {sp : Nat → Bool} {held : Bool} :
    ∀ {ts : List TypeId} {vs : List Value} {ds : List (DataW H)} {ps : List MemPlace}, DataW.TrodAll enc P w base sp held ts vs ds ps → ds.length = ts.length
  | [], _, _, _, h => by
    obtain ⟨rfl, rfl, rfl⟩ := trodAll_nil h
    rfl
  | _ :: _, _, _, _, h => by
    obtain ⟨v, vs1, d, ds1, a, b, rfl, rfl, rfl, g1, g2⟩ := trodAll_cons h
    simp [trodAll_len g2]

theorem trodAll_stays {H : Type} {enc : TypeId × Value → H} {P : Program} (hl : laidOutB P = true) {W W' : World} {base : Nat} {sp' : Nat → Bool} :
    ∀ {ts : List TypeId} {vs : List Value} {ds : List (DataW H)} {ps : List MemPlace}, (ts.all fun t => P.readableRec t && decide (t < P.types.size)) = true →
    DataW.TrodAll enc P W base (fun _ => true) true ts vs ds ps → (∀ p ∈ ps, W.sameAt W' p) → (∀ p ∈ ps, sp' p.block = true) → DataW.TrodAll enc P W' base sp' true ts vs ds ps
  | [], _, _, _, _, h, _, _ => by
    obtain ⟨rfl, rfl, rfl⟩ := trodAll_nil h
    exact trodAll_mk0
  | t :: ts, _, _, _, hr, h, h1, h2 => by
    obtain ⟨v, vs1, d, ds1, a, b, rfl, rfl, rfl, g1, g2⟩ := trodAll_cons h
    rw [List.all_cons, Bool.and_eq_true, Bool.and_eq_true] at hr
    obtain ⟨⟨r1, r2⟩, r3⟩ := hr
    exact ⟨a, b, WideElems.Trod_stays hl r1 (of_decide_eq_true r2) g1 (fun p hp => h1 p (List.mem_append_left _ hp)) (fun p hp => h2 p (List.mem_append_left _ hp)),
      trodAll_stays hl r3 g2 (fun p hp => h1 p (List.mem_append_right _ hp)) (fun p hp => h2 p (List.mem_append_right _ hp)), rfl⟩

/-- What a law's walk owes: of whatever arguments that can be read, true, and nothing that was there has turned. -/
def LawWalk {H : Type} (enc : TypeId × Value → H) (P : Program) (f : FuncId) (ts : List TypeId) : Prop :=
  ∀ (W : World) (base : Nat) (args : Array Value) (ds : List (DataW H)) (ps : List MemPlace),
    (∀ (j : Nat) (t : TypeId) (v : Value), ts[j]? = some t → args[j]? = some v → Value.okWide P W .any base t v) →
    DataW.TrodAll enc P W 0 (fun _ => true) true ts args.toList ds ps → (∀ x ∈ ps, x.block < W.heap.size) → W.noneFrozen ps →
    Calls P f args W fun e w' => e = .returned (.bool true) ∧ Below W.heap.size W w'

theorem law_lift {H : Type} {enc : TypeId × Value → H} {C : Checked} {os : Os} {f : FuncId} {fn : Func} {s : ChangeSpec} {tb : TypeId}
    (own : ownKnob C.prog.godebug = none) (laid : laidOutB C.prog = true) (started : os.Started)
    (hinit : C.prog.inits.idxOf? f = none) (hf : C.prog.funcs[f]? = some fn) (hvars : s.vars = [])
    (hread : (fn.params.toList.all fun t => C.prog.readableRec t && decide (t < C.prog.types.size)) = true)
    (hres : fn.resultTypes = #[tb]) (hb : C.prog.underlying tb = some .bool)
    (hs : ∀ ds : List (DataW H), ds.length = fn.params.toList.length → (s.fn H ds).results = [.lit (.bool true)] ∧ (s.fn H ds).args = ds ∧ (s.fn H ds).vars = [])
    (hwit : ∃ (w : World) (tape : Tape) (i : Input), w.os = os ∧ World.Shaped C.prog (w.forCall tape i) ∧ i.vars = [] ∧ Input.okWide C.prog (w.forCall tape i) Reach.any w.heap.size f i ∧
      ChangeSpec.pre6 enc C.prog fn s [] false (w.forCall tape i).memory i.args ∧ ({} : Assume).holds C.prog (lone (Frame.enter C.prog f i.args CallKind.normal) [] (w.forCall tape i)))
    (walk : LawWalk enc C.prog f fn.params.toList) :
    ReturnsInHanded {} C os f .any (s.pre6 enc C.prog fn [] false) (s.post enc C.prog fn false true false false) := by
  refine returnsInHanded_of_change own started hinit hf hwit ?_
  intro W base args ds gs before hval hW _ _
  have hW' := hW
  have hlt := hW.lt
  obtain ⟨p, q, hA, hV, rfl, hfz, hnd⟩ := hW
  rw [hvars] at hV
  obtain ⟨rfl, rfl⟩ := trodVars_none hV
  rw [List.append_nil] at hlt hfz
  have hlen := trodAll_len hA
  obtain ⟨e1, e2, e3⟩ := hs ds hlen
  refine (walk W base args ds p (fun j t v hj hv => hval j t v (by rw [← Array.getElem?_toList]; exact hj) hv) hA hlt hfz).mono ?_
  rintro e w' ⟨rfl, hbel⟩
  refine ⟨_, rfl, ds, [], p ++ [], [], p, [], hW', ?_, ?_, ?_, ?_, ?_⟩
  · rw [List.append_nil, e1, hres]
    exact trodAll_mk1 (shut_bool hb _)
  · rw [List.append_nil, e2]
    exact trodAll_stays laid hread hA (fun x hx => hbel.same (hlt x hx)) (fun x hx => by simpa using hlt x hx)
  · rw [hvars, List.append_nil, e3]
    rfl
  · exact hbel.frame _
  · intro h
    cases h

section
variable {H : Type} {enc : TypeId × Value → H} {P : Program} {W : World} {sp : Nat → Bool}

/-- A slice of one-cell elements, opened out of its reading: the list of its elements; each reads by itself. -/
theorem row1_of_trod {t e : TypeId} {fuel : Nat} {v : Value} {y : DataW H × List MemPlace} (ht : P.underlying t = some (.slice e)) (hc : P.cellsOf e = 1)
    (hf : DataW.trod enc P W 0 (fun _ => true) true fuel t [v] = some y) :
    ∃ vs : List Value, Row1 W v vs ∧ ∀ x ∈ vs, ∃ n y, DataW.trod enc P W 0 (fun _ => true) true n e [x] = some y := by
  rcases Deep.open_slice1 ht hc hf with ⟨hcs, _⟩ | ⟨a1, len1, cap1, m, n, V, D, Pl, hcs, hb, hl, hm, hmm, _, hx⟩
  · obtain rfl : v = .slice none 0 0 := by simpa using hcs
    exact ⟨[], Row1.nil W, fun x hx => by cases hx⟩
  · obtain rfl : v = .slice (some a1) len1 cap1 := by simpa using hcs
    simp only [if_true] at hmm
    refine ⟨(List.range len1).map V, ⟨some a1, cap1, by simp, by simpa using hl, hm, (fun e => by cases e), fun hne => ?_⟩, ?_⟩
    · have h0 : 0 < len1 := by
        rcases Nat.eq_zero_or_pos len1 with h | h
        · subst h; exact absurd rfl hne
        · exact h
      obtain ⟨b, off, spot⟩ := a1
      have hspot : spot = none := by simpa [Addr.add] using World.cell?_spot ((hx 0 (by omega)).1)
      subst hspot
      refine ⟨b, off, rfl, ?_, fun i hi => ?_⟩
      · have := (hx 0 (by omega)).1
        exact World.block_lt_of_cell? W _ this
      · have hi' : i < len1 := by simpa using hi
        rw [← add_plain, (hx i (by omega)).1]
        simp [hi']
    · intro x hxm
      obtain ⟨i, hi, rfl⟩ := List.mem_map.1 hxm
      have hi' : i < len1 := by simpa using hi
      exact ⟨n, _, (hx i (by omega)).2⟩

/-- A slice of one-cell elements, opened: the list of its elements; each reads by itself. -/
theorem open_row1 {base0 : Nat} {r : Reach} {t e : TypeId} {v : Value} {d : DataW H} {ps : List MemPlace} (ht : P.underlying t = some (.slice e)) (hc : P.cellsOf e = 1)
    (hval : Value.okWide P W r base0 t v) (hd : DataW.Trod enc P W 0 (fun _ => true) true t v d ps) :
    ∃ vs : List Value, Row1 W v vs ∧ ∀ x ∈ vs, ∃ n y, DataW.trod enc P W 0 (fun _ => true) true n e [x] = some y := by
  obtain ⟨a, len, cap, rfl⟩ := okWide_slice ht hval
  obtain ⟨fuel, hf⟩ := hd
  exact row1_of_trod (y := (d, ps)) ht hc (by simpa [Value.cells] using hf)

theorem cell_float {e : TypeId} {k : FloatKind} (he : P.underlying e = some (.float k)) {n : Nat} {x : Value} {y : DataW H × List MemPlace}
    (h : DataW.trod enc P W 0 sp true n e [x] = some y) : ∃ b, x = .float k b ∧ (Lit.float k b).wf = true := by
  cases n with
  | zero => simp [DataW.trod] at h
  | succ n =>
    unfold DataW.trod at h
    rw [he] at h
    cases x <;> simp at h
    rename_i k' b
    obtain ⟨⟨rfl, h2⟩, _⟩ := h
    exact ⟨b, rfl, h2⟩

theorem cell_int {e : TypeId} {k : IntKind} (he : P.underlying e = some (.int k)) {n : Nat} {x : Value} {y : DataW H × List MemPlace}
    (h : DataW.trod enc P W 0 sp true n e [x] = some y) : ∃ b, x = .int k b ∧ (Lit.int k b).wf = true := by
  cases n with
  | zero => simp [DataW.trod] at h
  | succ n =>
    unfold DataW.trod at h
    rw [he] at h
    cases x <;> simp at h
    rename_i k' b
    obtain ⟨⟨rfl, h2⟩, _⟩ := h
    exact ⟨b, rfl, h2⟩

/-- What each element is, of all of them. -/
theorem list_of_all {α : Type} {f : α → Value} {p : α → Prop} : ∀ {vs : List Value}, (∀ x ∈ vs, ∃ a, x = f a ∧ p a) → ∃ l : List α, vs = l.map f ∧ ∀ a ∈ l, p a
  | [], _ => ⟨[], rfl, fun a h => by cases h⟩
  | v :: vs, h => by
    obtain ⟨a, rfl, ha⟩ := h v (List.mem_cons_self ..)
    obtain ⟨l, rfl, hl⟩ := list_of_all (fun x hx => h x (List.mem_cons_of_mem _ hx))
    exact ⟨a :: l, rfl, fun b hb => by
      rcases List.mem_cons.1 hb with rfl | hb
      · exact ha
      · exact hl b hb⟩

theorem open_floats {base0 : Nat} {r : Reach} {t e : TypeId} {v : Value} {d : DataW H} {ps : List MemPlace} {k : FloatKind} (ht : P.underlying t = some (.slice e)) (he : P.underlying e = some (.float k)) (hc : P.cellsOf e = 1)
    (hval : Value.okWide P W r base0 t v) (hd : DataW.Trod enc P W 0 (fun _ => true) true t v d ps) : ∃ zs : List Nat, Row1 W v (zs.map (.float k)) := by
  obtain ⟨vs, h1, h2⟩ := open_row1 ht hc hval hd
  obtain ⟨l, rfl, _⟩ := list_of_all (f := Value.float k) (p := fun _ => True) (fun x hx => by
    obtain ⟨n, y, h⟩ := h2 x hx
    obtain ⟨b, rfl, _⟩ := cell_float he h
    exact ⟨b, rfl, trivial⟩)
  exact ⟨l, h1⟩

theorem open_numbers {base0 : Nat} {r : Reach} {t e : TypeId} {v : Value} {d : DataW H} {ps : List MemPlace} {k : IntKind} (ht : P.underlying t = some (.slice e)) (he : P.underlying e = some (.int k)) (hc : P.cellsOf e = 1)
    (hval : Value.okWide P W r base0 t v) (hd : DataW.Trod enc P W 0 (fun _ => true) true t v d ps) : ∃ zs : List Int, Row1 W v (zs.map (.int k)) ∧ ∀ n ∈ zs, (Lit.int k n).wf = true := by
  obtain ⟨vs, h1, h2⟩ := open_row1 ht hc hval hd
  obtain ⟨l, rfl, hl⟩ := list_of_all (f := Value.int k) (p := fun n => (Lit.int k n).wf = true) (fun x hx => by
    obtain ⟨n, y, h⟩ := h2 x hx
    exact cell_int he h)
  exact ⟨l, h1, hl⟩

theorem bytes_of_trod {t e : TypeId} {fuel : Nat} {v : Value} {y : DataW H × List MemPlace} (ht : P.underlying t = some (.slice e)) (he : P.underlying e = some (.int .u8)) (hc : P.cellsOf e = 1)
    (hf : DataW.trod enc P W 0 (fun _ => true) true fuel t [v] = some y) : ∃ l : List UInt8, Row1 W v (l.map bval) := by
  obtain ⟨vs, h1, h2⟩ := row1_of_trod ht hc hf
  obtain ⟨l, rfl, _⟩ := list_of_all (f := bval) (p := fun _ => True) (fun x hx => by
    obtain ⟨n, y, h⟩ := h2 x hx
    obtain ⟨b, rfl, hw⟩ := cell_int he h
    have hb : 0 ≤ b ∧ b ≤ 255 := by simpa [Lit.wf, IntKind.min, IntKind.max, IntKind.signed, IntKind.bits] using hw
    refine ⟨UInt8.ofNat b.toNat, ?_, trivial⟩
    unfold bval
    congr 1
    rw [UInt8.toNat_ofNat']
    omega)
  exact ⟨l, h1⟩

/-- A slice of bytes, opened. -/
theorem open_bytes {base0 : Nat} {r : Reach} {t e : TypeId} {v : Value} {d : DataW H} {ps : List MemPlace} (ht : P.underlying t = some (.slice e)) (he : P.underlying e = some (.int .u8)) (hc : P.cellsOf e = 1)
    (hval : Value.okWide P W r base0 t v) (hd : DataW.Trod enc P W 0 (fun _ => true) true t v d ps) : ∃ l : List UInt8, Row1 W v (l.map bval) := by
  obtain ⟨a, len, cap, rfl⟩ := okWide_slice ht hval
  obtain ⟨fuel, hf⟩ := hd
  exact bytes_of_trod (y := (d, ps)) ht he hc (by simpa [Value.cells] using hf)

theorem lists_of_all {w : World} : ∀ {vs : List Value}, (∀ x ∈ vs, ∃ l : List UInt8, Row1 w x (l.map bval)) → ∃ ls : List (List UInt8), vs.length = ls.length ∧ ∀ (i : Nat) (x : Value) (l : List UInt8), vs[i]? = some x → ls[i]? = some l → Row1 w x (l.map bval)
  | [], _ => ⟨[], rfl, fun i x l hx => by simp at hx⟩
  | v :: vs, h => by
    obtain ⟨l, hl⟩ := h v (List.mem_cons_self ..)
    obtain ⟨ls, h1, h2⟩ := lists_of_all (fun x hx => h x (List.mem_cons_of_mem _ hx))
    refine ⟨l :: ls, by simp [h1], fun i x k hx hk => ?_⟩
    cases i with
    | zero =>
      simp at hx hk
      subst hx; subst hk
      exact hl
    | succ i => exact h2 i x k (by simpa using hx) (by simpa using hk)

/-- A slice of slices of bytes, opened. -/
theorem open_bytes2 {base0 : Nat} {r : Reach} {t q e : TypeId} {v : Value} {d : DataW H} {ps : List MemPlace} (ht : P.underlying t = some (.slice q)) (hq : P.underlying q = some (.slice e)) (he : P.underlying e = some (.int .u8)) (hcq : P.cellsOf q = 1) (hc : P.cellsOf e = 1)
    (hval : Value.okWide P W r base0 t v) (hd : DataW.Trod enc P W 0 (fun _ => true) true t v d ps) : ∃ ls : List (List UInt8), RowB W v ls := by
  obtain ⟨vs, h1, h2⟩ := open_row1 ht hcq hval hd
  obtain ⟨ls, h3, h4⟩ := lists_of_all (w := W) (vs := vs) (fun x hx => by
    obtain ⟨n, y, h⟩ := h2 x hx
    exact bytes_of_trod hq he hc h)
  exact ⟨ls, vs, h1, h3, h4⟩

/-- An array of one-cell elements, opened. -/
theorem open_array {base0 : Nat} {r : Reach} {t e : TypeId} {len : Nat} {v : Value} {d : DataW H} {ps : List MemPlace} (ht : P.underlying t = some (.array len e)) (hc : P.cellsOf e = 1) (hct : P.cellsOf t = len)
    (hval : Value.okWide P W r base0 t v) (hd : DataW.Trod enc P W 0 (fun _ => true) true t v d ps) :
    ∃ vs : List Value, v = .agg vs.toArray ∧ vs.length = len ∧ ∀ x ∈ vs, ∃ n y, DataW.trod enc P W 0 (fun _ => true) true n e [x] = some y := by
  simp only [Value.okWide, ht] at hval
  obtain ⟨cs, rfl, hsz, _⟩ := hval
  rw [hct] at hsz
  obtain ⟨fuel, hf⟩ := hd
  obtain ⟨xs, m, _, _, hl, hxl, hx⟩ := DataW.trod_array ht hf
  obtain ⟨l⟩ := cs
  refine ⟨l, rfl, by simpa using hsz, fun x hxm => ?_⟩
  obtain ⟨i, hi, rfl⟩ := List.getElem_of_mem hxm
  have hlen : l.length = len := by simpa using hsz
  have hi' : i < len := by omega
  have := hx i hi'
  rw [hc, Nat.mul_one] at this
  refine ⟨m, xs[i]'(by omega), ?_⟩
  rw [List.getElem?_eq_getElem (by omega)] at this
  rw [← this]
  congr 1
  show [l[i]] = (l.drop i).take 1
  rw [List.drop_eq_getElem_cons hi]
  rfl

theorem open_array_ints {base0 : Nat} {r : Reach} {t e : TypeId} {len : Nat} {k : IntKind} {v : Value} {d : DataW H} {ps : List MemPlace} (ht : P.underlying t = some (.array len e)) (he : P.underlying e = some (.int k)) (hc : P.cellsOf e = 1) (hct : P.cellsOf t = len)
    (hval : Value.okWide P W r base0 t v) (hd : DataW.Trod enc P W 0 (fun _ => true) true t v d ps) :
    ∃ zs : List Int, v = .agg (zs.map (Value.int k)).toArray ∧ zs.length = len ∧ ∀ n ∈ zs, (Lit.int k n).wf = true := by
  obtain ⟨vs, rfl, hl, h2⟩ := open_array ht hc hct hval hd
  obtain ⟨l, rfl, hw⟩ := list_of_all (f := Value.int k) (p := fun n => (Lit.int k n).wf = true) (fun x hx => by
    obtain ⟨n, y, h⟩ := h2 x hx
    exact cell_int he h)
  exact ⟨l, rfl, by simpa using hl, hw⟩
end

theorem law_own : ownKnob Try.prog.godebug = none := by kernel_rfl
theorem law_laid : laidOutB Try.prog = true := by kernel_rfl

end Go.Proofs.Ytdjdalaghfknoaa

/- The parameters of a call, five and more. Nothing here speaks of a program. Each theorem names its own conditions. -/
namespace Go.Proofs.Ytdjdalaghfknoaa
open Go.ChangeShapes Go.WideShapes Go.ChangeAt Go.RowKit
set_option linter.unusedVariables false
set_option linter.unusedSimpArgs false

section
variable {H : Type} {enc : TypeId × Value → H} {P : Program} {w : World} {base : Nat} {spare : Nat → Bool} {held : Bool}
theorem trodAll_five {t0 t1 t2 t3 t4 : TypeId} {args : Array Value} {ds : List (DataW H)} {ps : List MemPlace} (h : DataW.TrodAll enc P w base spare held [t0, t1, t2, t3, t4] args.toList ds ps) :
    ∃ v0 v1 v2 v3 v4 d0 d1 d2 d3 d4 p0 p1 p2 p3 p4, args = #[v0, v1, v2, v3, v4] ∧ ds = [d0, d1, d2, d3, d4] ∧ ps = p0 ++ p1 ++ p2 ++ p3 ++ p4 ∧ DataW.Trod enc P w base spare held t0 v0 d0 p0 ∧ DataW.Trod enc P w base spare held t1 v1 d1 p1 ∧ DataW.Trod enc P w base spare held t2 v2 d2 p2 ∧ DataW.Trod enc P w base spare held t3 v3 d3 p3 ∧ DataW.Trod enc P w base spare held t4 v4 d4 p4 := by
  obtain ⟨v0, vs0, d0, ds0, p0, q0, hargs, rfl, rfl, h0, r0⟩ := trodAll_cons h
  obtain ⟨v1, vs1, d1, ds1, p1, q1, rfl, rfl, rfl, h1, r1⟩ := trodAll_cons r0
  obtain ⟨v2, vs2, d2, ds2, p2, q2, rfl, rfl, rfl, h2, r2⟩ := trodAll_cons r1
  obtain ⟨v3, vs3, d3, ds3, p3, q3, rfl, rfl, rfl, h3, r3⟩ := trodAll_cons r2
  obtain ⟨v4, vs4, d4, ds4, p4, q4, rfl, rfl, rfl, h4, r4⟩ := trodAll_cons r3
  obtain ⟨rfl, rfl, rfl⟩ := trodAll_nil r4
  exact ⟨v0, v1, v2, v3, v4, d0, d1, d2, d3, d4, p0, p1, p2, p3, p4, by cases args; simp_all, rfl, by simp, h0, h1, h2, h3, h4⟩
theorem trodAll_six {t0 t1 t2 t3 t4 t5 : TypeId} {args : Array Value} {ds : List (DataW H)} {ps : List MemPlace} (h : DataW.TrodAll enc P w base spare held [t0, t1, t2, t3, t4, t5] args.toList ds ps) :
    ∃ v0 v1 v2 v3 v4 v5 d0 d1 d2 d3 d4 d5 p0 p1 p2 p3 p4 p5, args = #[v0, v1, v2, v3, v4, v5] ∧ ds = [d0, d1, d2, d3, d4, d5] ∧ ps = p0 ++ p1 ++ p2 ++ p3 ++ p4 ++ p5 ∧ DataW.Trod enc P w base spare held t0 v0 d0 p0 ∧ DataW.Trod enc P w base spare held t1 v1 d1 p1 ∧ DataW.Trod enc P w base spare held t2 v2 d2 p2 ∧ DataW.Trod enc P w base spare held t3 v3 d3 p3 ∧ DataW.Trod enc P w base spare held t4 v4 d4 p4 ∧ DataW.Trod enc P w base spare held t5 v5 d5 p5 := by
  obtain ⟨v0, vs0, d0, ds0, p0, q0, hargs, rfl, rfl, h0, r0⟩ := trodAll_cons h
  obtain ⟨v1, vs1, d1, ds1, p1, q1, rfl, rfl, rfl, h1, r1⟩ := trodAll_cons r0
  obtain ⟨v2, vs2, d2, ds2, p2, q2, rfl, rfl, rfl, h2, r2⟩ := trodAll_cons r1
  obtain ⟨v3, vs3, d3, ds3, p3, q3, rfl, rfl, rfl, h3, r3⟩ := trodAll_cons r2
  obtain ⟨v4, vs4, d4, ds4, p4, q4, rfl, rfl, rfl, h4, r4⟩ := trodAll_cons r3
  obtain ⟨v5, vs5, d5, ds5, p5, q5, rfl, rfl, rfl, h5, r5⟩ := trodAll_cons r4
  obtain ⟨rfl, rfl, rfl⟩ := trodAll_nil r5
  exact ⟨v0, v1, v2, v3, v4, v5, d0, d1, d2, d3, d4, d5, p0, p1, p2, p3, p4, p5, by cases args; simp_all, rfl, by simp, h0, h1, h2, h3, h4, h5⟩
theorem trodAll_seven {t0 t1 t2 t3 t4 t5 t6 : TypeId} {args : Array Value} {ds : List (DataW H)} {ps : List MemPlace} (h : DataW.TrodAll enc P w base spare held [t0, t1, t2, t3, t4, t5, t6] args.toList ds ps) :
    ∃ v0 v1 v2 v3 v4 v5 v6 d0 d1 d2 d3 d4 d5 d6 p0 p1 p2 p3 p4 p5 p6, args = #[v0, v1, v2, v3, v4, v5, v6] ∧ ds = [d0, d1, d2, d3, d4, d5, d6] ∧ ps = p0 ++ p1 ++ p2 ++ p3 ++ p4 ++ p5 ++ p6 ∧ DataW.Trod enc P w base spare held t0 v0 d0 p0 ∧ DataW.Trod enc P w base spare held t1 v1 d1 p1 ∧ DataW.Trod enc P w base spare held t2 v2 d2 p2 ∧ DataW.Trod enc P w base spare held t3 v3 d3 p3 ∧ DataW.Trod enc P w base spare held t4 v4 d4 p4 ∧ DataW.Trod enc P w base spare held t5 v5 d5 p5 ∧ DataW.Trod enc P w base spare held t6 v6 d6 p6 := by
  obtain ⟨v0, vs0, d0, ds0, p0, q0, hargs, rfl, rfl, h0, r0⟩ := trodAll_cons h
  obtain ⟨v1, vs1, d1, ds1, p1, q1, rfl, rfl, rfl, h1, r1⟩ := trodAll_cons r0
  obtain ⟨v2, vs2, d2, ds2, p2, q2, rfl, rfl, rfl, h2, r2⟩ := trodAll_cons r1
  obtain ⟨v3, vs3, d3, ds3, p3, q3, rfl, rfl, rfl, h3, r3⟩ := trodAll_cons r2
  obtain ⟨v4, vs4, d4, ds4, p4, q4, rfl, rfl, rfl, h4, r4⟩ := trodAll_cons r3
  obtain ⟨v5, vs5, d5, ds5, p5, q5, rfl, rfl, rfl, h5, r5⟩ := trodAll_cons r4
  obtain ⟨v6, vs6, d6, ds6, p6, q6, rfl, rfl, rfl, h6, r6⟩ := trodAll_cons r5
  obtain ⟨rfl, rfl, rfl⟩ := trodAll_nil r6
  exact ⟨v0, v1, v2, v3, v4, v5, v6, d0, d1, d2, d3, d4, d5, d6, p0, p1, p2, p3, p4, p5, p6, by cases args; simp_all, rfl, by simp, h0, h1, h2, h3, h4, h5, h6⟩
theorem trodAll_eight {t0 t1 t2 t3 t4 t5 t6 t7 : TypeId} {args : Array Value} {ds : List (DataW H)} {ps : List MemPlace} (h : DataW.TrodAll enc P w base spare held [t0, t1, t2, t3, t4, t5, t6, t7] args.toList ds ps) :
    ∃ v0 v1 v2 v3 v4 v5 v6 v7 d0 d1 d2 d3 d4 d5 d6 d7 p0 p1 p2 p3 p4 p5 p6 p7, args = #[v0, v1, v2, v3, v4, v5, v6, v7] ∧ ds = [d0, d1, d2, d3, d4, d5, d6, d7] ∧ ps = p0 ++ p1 ++ p2 ++ p3 ++ p4 ++ p5 ++ p6 ++ p7 ∧ DataW.Trod enc P w base spare held t0 v0 d0 p0 ∧ DataW.Trod enc P w base spare held t1 v1 d1 p1 ∧ DataW.Trod enc P w base spare held t2 v2 d2 p2 ∧ DataW.Trod enc P w base spare held t3 v3 d3 p3 ∧ DataW.Trod enc P w base spare held t4 v4 d4 p4 ∧ DataW.Trod enc P w base spare held t5 v5 d5 p5 ∧ DataW.Trod enc P w base spare held t6 v6 d6 p6 ∧ DataW.Trod enc P w base spare held t7 v7 d7 p7 := by
  obtain ⟨v0, vs0, d0, ds0, p0, q0, hargs, rfl, rfl, h0, r0⟩ := trodAll_cons h
  obtain ⟨v1, vs1, d1, ds1, p1, q1, rfl, rfl, rfl, h1, r1⟩ := trodAll_cons r0
  obtain ⟨v2, vs2, d2, ds2, p2, q2, rfl, rfl, rfl, h2, r2⟩ := trodAll_cons r1
  obtain ⟨v3, vs3, d3, ds3, p3, q3, rfl, rfl, rfl, h3, r3⟩ := trodAll_cons r2
  obtain ⟨v4, vs4, d4, ds4, p4, q4, rfl, rfl, rfl, h4, r4⟩ := trodAll_cons r3
  obtain ⟨v5, vs5, d5, ds5, p5, q5, rfl, rfl, rfl, h5, r5⟩ := trodAll_cons r4
  obtain ⟨v6, vs6, d6, ds6, p6, q6, rfl, rfl, rfl, h6, r6⟩ := trodAll_cons r5
  obtain ⟨v7, vs7, d7, ds7, p7, q7, rfl, rfl, rfl, h7, r7⟩ := trodAll_cons r6
  obtain ⟨rfl, rfl, rfl⟩ := trodAll_nil r7
  exact ⟨v0, v1, v2, v3, v4, v5, v6, v7, d0, d1, d2, d3, d4, d5, d6, d7, p0, p1, p2, p3, p4, p5, p6, p7, by cases args; simp_all, rfl, by simp, h0, h1, h2, h3, h4, h5, h6, h7⟩
theorem trodAll_nine {t0 t1 t2 t3 t4 t5 t6 t7 t8 : TypeId} {args : Array Value} {ds : List (DataW H)} {ps : List MemPlace} (h : DataW.TrodAll enc P w base spare held [t0, t1, t2, t3, t4, t5, t6, t7, t8] args.toList ds ps) :
    ∃ v0 v1 v2 v3 v4 v5 v6 v7 v8 d0 d1 d2 d3 d4 d5 d6 d7 d8 p0 p1 p2 p3 p4 p5 p6 p7 p8, args = #[v0, v1, v2, v3, v4, v5, v6, v7, v8] ∧ ds = [d0, d1, d2, d3, d4, d5, d6, d7, d8] ∧ ps = p0 ++ p1 ++ p2 ++ p3 ++ p4 ++ p5 ++ p6 ++ p7 ++ p8 ∧ DataW.Trod enc P w base spare held t0 v0 d0 p0 ∧ DataW.Trod enc P w base spare held t1 v1 d1 p1 ∧ DataW.Trod enc P w base spare held t2 v2 d2 p2 ∧ DataW.Trod enc P w base spare held t3 v3 d3 p3 ∧ DataW.Trod enc P w base spare held t4 v4 d4 p4 ∧ DataW.Trod enc P w base spare held t5 v5 d5 p5 ∧ DataW.Trod enc P w base spare held t6 v6 d6 p6 ∧ DataW.Trod enc P w base spare held t7 v7 d7 p7 ∧ DataW.Trod enc P w base spare held t8 v8 d8 p8 := by
  obtain ⟨v0, vs0, d0, ds0, p0, q0, hargs, rfl, rfl, h0, r0⟩ := trodAll_cons h
  obtain ⟨v1, vs1, d1, ds1, p1, q1, rfl, rfl, rfl, h1, r1⟩ := trodAll_cons r0
  obtain ⟨v2, vs2, d2, ds2, p2, q2, rfl, rfl, rfl, h2, r2⟩ := trodAll_cons r1
  obtain ⟨v3, vs3, d3, ds3, p3, q3, rfl, rfl, rfl, h3, r3⟩ := trodAll_cons r2
  obtain ⟨v4, vs4, d4, ds4, p4, q4, rfl, rfl, rfl, h4, r4⟩ := trodAll_cons r3
  obtain ⟨v5, vs5, d5, ds5, p5, q5, rfl, rfl, rfl, h5, r5⟩ := trodAll_cons r4
  obtain ⟨v6, vs6, d6, ds6, p6, q6, rfl, rfl, rfl, h6, r6⟩ := trodAll_cons r5
  obtain ⟨v7, vs7, d7, ds7, p7, q7, rfl, rfl, rfl, h7, r7⟩ := trodAll_cons r6
  obtain ⟨v8, vs8, d8, ds8, p8, q8, rfl, rfl, rfl, h8, r8⟩ := trodAll_cons r7
  obtain ⟨rfl, rfl, rfl⟩ := trodAll_nil r8
  exact ⟨v0, v1, v2, v3, v4, v5, v6, v7, v8, d0, d1, d2, d3, d4, d5, d6, d7, d8, p0, p1, p2, p3, p4, p5, p6, p7, p8, by cases args; simp_all, rfl, by simp, h0, h1, h2, h3, h4, h5, h6, h7, h8⟩
end

end Go.Proofs.Ytdjdalaghfknoaa

/- Arguments that are numbers of 32 bytes, bytes, bools, opened. Each theorem names its own conditions. -/
namespace Go.Proofs.Ytdjdalaghfknoaa
open Go.ChangeShapes Go.WideShapes Go.ChangeAt Go.RowKit
set_option linter.unusedVariables false

section
variable {H : Type} {enc : TypeId × Value → H} {P : Program} {W : World}

theorem byte_of {b : Int} (h : (Lit.int .u8 b).wf = true) : ∃ n : UInt8, b = (n.toNat : Int) := by
  have hb : 0 ≤ b ∧ b ≤ 255 := by simpa [Lit.wf, IntKind.min, IntKind.max, IntKind.signed, IntKind.bits] using h
  refine ⟨UInt8.ofNat b.toNat, ?_⟩
  rw [UInt8.toNat_ofNat']
  omega
theorem bytes_of_ints : ∀ {zs : List Int}, (∀ n ∈ zs, (Lit.int .u8 n).wf = true) → ∃ l : List UInt8, zs.map (Value.int .u8) = l.map bval
  | [], _ => ⟨[], rfl⟩
  | z :: r, h => by
    obtain ⟨n, hn⟩ := byte_of (h z (List.mem_cons_self ..))
    obtain ⟨l, hl⟩ := bytes_of_ints (zs := r) (fun x hx => h x (List.mem_cons_of_mem _ hx))
    exact ⟨n :: l, by simp only [List.map_cons, hl, hn]; rfl⟩
/-- A number of 32 bytes. -/
theorem open_num {base0 : Nat} {r : Reach} {t e : TypeId} {v : Value} {d : DataW H} {ps : List MemPlace} (ht : P.underlying t = some (.array 32 e)) (he : P.underlying e = some (.int .u8)) (hc : P.cellsOf e = 1) (hct : P.cellsOf t = 32)
    (hval : Value.okWide P W r base0 t v) (hd : DataW.Trod enc P W 0 (fun _ => true) true t v d ps) : ∃ l : List UInt8, v = .agg (l.map bval).toArray ∧ l.length = 32 := by
  obtain ⟨zs, rfl, hl, hw⟩ := open_array_ints ht he hc hct hval hd
  obtain ⟨l, e⟩ := bytes_of_ints hw
  refine ⟨l, by rw [e], ?_⟩
  have := congrArg List.length e
  simpa [hl] using this.symm
/-- Bytes in an array of whatever length. -/
theorem open_numN {base0 : Nat} {r : Reach} {n : Nat} {t e : TypeId} {v : Value} {d : DataW H} {ps : List MemPlace} (ht : P.underlying t = some (.array n e)) (he : P.underlying e = some (.int .u8)) (hc : P.cellsOf e = 1) (hct : P.cellsOf t = n)
    (hval : Value.okWide P W r base0 t v) (hd : DataW.Trod enc P W 0 (fun _ => true) true t v d ps) : ∃ l : List UInt8, v = .agg (l.map bval).toArray ∧ l.length = n := by
  obtain ⟨zs, rfl, hl, hw⟩ := open_array_ints ht he hc hct hval hd
  obtain ⟨l, e⟩ := bytes_of_ints hw
  refine ⟨l, by rw [e], ?_⟩
  have := congrArg List.length e
  simpa [hl] using this.symm
theorem i64_both {n : Int} (h : (Lit.int .i64 n).wf = true) : -9223372036854775808 ≤ n ∧ n ≤ 9223372036854775807 := by simpa [Lit.wf, IntKind.min, IntKind.max, IntKind.signed, IntKind.bits] using h
theorem i64_lo {n : Int} (h : (Lit.int .i64 n).wf = true) : -9223372036854775808 ≤ n := (i64_both h).1
theorem i64_hi {n : Int} (h : (Lit.int .i64 n).wf = true) : n ≤ 9223372036854775807 := (i64_both h).2
/-- A byte. -/
theorem open_byte {base0 : Nat} {r : Reach} {t : TypeId} {v : Value} {d : DataW H} {ps : List MemPlace} (ht : P.underlying t = some (.int .u8))
    (hval : Value.okWide P W r base0 t v) (hd : DataW.Trod enc P W 0 (fun _ => true) true t v d ps) : ∃ n : UInt8, v = .int .u8 (n.toNat : Int) := by
  obtain ⟨z, rfl, _, _, hw⟩ := open_int ht hval hd
  obtain ⟨n, rfl⟩ := byte_of hw
  exact ⟨n, rfl⟩
end

end Go.Proofs.Ytdjdalaghfknoaa

/- Digits to any base: their number, one digit turned, parts of them, what they are when they are none too great. No program. Each theorem names its own conditions. -/
namespace Go.Proofs.Ytdjdalaghfknoaa
open Go.RowKit
set_option linter.unusedVariables false
set_option linter.unusedSimpArgs false

/-- The number that digits to the base B are, the lowest first. -/
def gV (B : Int) : List Int → Int
  | [] => 0
  | z :: r => z + B * gV B r
theorem gV_set (B : Int) : ∀ (zs : List Int) (i : Nat) (z : Int), i < zs.length → gV B (zs.set i z) = gV B zs + (z - zs.getD i 0) * B ^ i
  | [], i, z, h => by simp at h
  | a :: r, 0, z, h => by simp [gV]; omega
  | a :: r, i + 1, z, h => by
    have := gV_set B r i z (by simpa using h)
    simp only [List.set_cons_succ, gV, this, List.getD_cons_succ, Int.pow_succ]
    grind
theorem gV_append (B : Int) : ∀ (a b : List Int), gV B (a ++ b) = gV B a + B ^ a.length * gV B b
  | [], b => by simp [gV]
  | z :: r, b => by
    simp only [List.cons_append, gV, gV_append B r b, List.length_cons, Int.pow_succ]
    grind
theorem gV_cut (B : Int) (zs : List Int) (d : Nat) (h : d ≤ zs.length) : gV B zs = gV B (zs.take d) + B ^ d * gV B (zs.drop d) := by
  have := gV_append B (zs.take d) (zs.drop d)
  rw [List.take_append_drop, List.length_take, Nat.min_eq_left h] at this
  exact this
theorem gV_take_succ (B : Int) (zs : List Int) (k : Nat) (h : k < zs.length) : gV B (zs.take (k + 1)) = gV B (zs.take k) + zs.getD k 0 * B ^ k := by
  rw [List.take_succ_eq_append_getElem h, gV_append, List.length_take, Nat.min_eq_left (by omega)]
  simp only [gV, List.getD, List.getElem?_eq_getElem h, Option.getD_some]
  grind
theorem gV_zeros (B : Int) : ∀ (n : Nat), gV B (List.replicate n 0) = 0
  | 0 => rfl
  | n + 1 => by simp [List.replicate_succ, gV, gV_zeros B n]
theorem gV_zero_of (B : Int) : ∀ {zs : List Int}, (∀ i, zs.getD i 0 = 0) → gV B zs = 0
  | [], _ => rfl
  | z :: r, h => by
    have h0 : z = 0 := h 0
    have h1 := gV_zero_of B (zs := r) (fun i => by have := h (i + 1); simpa using this)
    simp [gV, h0, h1]
theorem gV_range {B : Int} (hB : 0 < B) : ∀ {zs : List Int}, (∀ i, i < zs.length → 0 ≤ zs.getD i 0 ∧ zs.getD i 0 < B) → 0 ≤ gV B zs ∧ gV B zs < B ^ zs.length
  | [], _ => by simp [gV]
  | z :: r, h => by
    have h0 : 0 ≤ z ∧ z < B := h 0 (by simp)
    have h1 := gV_range hB (zs := r) (fun i hi => by have := h (i + 1) (by simpa using hi); simpa using this)
    obtain ⟨p1, p2⟩ := h1
    have q1 : 0 ≤ B * gV B r := Int.mul_nonneg (by omega) p1
    have q2 : B * (gV B r + 1) ≤ B * B ^ r.length := Int.mul_le_mul_of_nonneg_left (by omega) (by omega)
    rw [Int.mul_add, Int.mul_one] at q2
    simp only [gV, List.length_cons, Int.pow_succ]
    rw [Int.mul_comm (B ^ r.length) B]
    omega
theorem gV_inj {B : Int} (hB : 0 < B) : ∀ {xs ys : List Int}, xs.length = ys.length → (∀ i, i < xs.length → 0 ≤ xs.getD i 0 ∧ xs.getD i 0 < B) → (∀ i, i < ys.length → 0 ≤ ys.getD i 0 ∧ ys.getD i 0 < B) → gV B xs = gV B ys → xs = ys
  | [], [], _, _, _, _ => rfl
  | [], _ :: _, h, _, _, _ => by simp at h
  | _ :: _, [], h, _, _, _ => by simp at h
  | x :: r, y :: s, hl, h1, h2, he => by
    have a1 : 0 ≤ x ∧ x < B := h1 0 (by simp)
    have a2 : 0 ≤ y ∧ y < B := h2 0 (by simp)
    simp only [gV] at he
    have e1 : (x + B * gV B r) % B = x := by rw [Int.add_mul_emod_self_left, Int.emod_eq_of_lt a1.1 a1.2]
    have e2 : (y + B * gV B s) % B = y := by rw [Int.add_mul_emod_self_left, Int.emod_eq_of_lt a2.1 a2.2]
    have e3 : x = y := by rw [← e1, ← e2, he]
    subst e3
    have e4 : gV B r = gV B s := Int.eq_of_mul_eq_mul_left (by omega : B ≠ 0) (by omega)
    rw [gV_inj hB (by simpa using hl) (fun i hi => by have := h1 (i + 1) (by simpa using hi); simpa using this) (fun i hi => by have := h2 (i + 1) (by simpa using hi); simpa using this) e4]

theorem getD_eq {zs : List Int} {i : Nat} (h : i < zs.length) : zs.getD i 0 = zs[i] := by simp [List.getD, h]
theorem getD_out {zs : List Int} {i : Nat} (h : zs.length ≤ i) : zs.getD i 0 = 0 := by simp [List.getD, h]
theorem getD_take {zs : List Int} {i d : Nat} (h : i < d) : (zs.take d).getD i 0 = zs.getD i 0 := by simp [List.getD, List.getElem?_take, h]
theorem getD_drop {zs : List Int} {i d : Nat} : (zs.drop d).getD i 0 = zs.getD (d + i) 0 := by simp [List.getD, List.getElem?_drop]
theorem ext_getD {xs ys : List Int} (hl : xs.length = ys.length) (h : ∀ i, i < xs.length → xs.getD i 0 = ys.getD i 0) : xs = ys := by
  apply List.ext_getElem hl
  intro i h1 h2
  have := h i h1
  rwa [getD_eq h1, getD_eq h2] at this
theorem take_eq {xs ys : List Int} {d : Nat} (hl : xs.length = ys.length) (hd : d ≤ xs.length) (h : ∀ i, i < d → xs.getD i 0 = ys.getD i 0) : xs.take d = ys.take d := by
  apply ext_getD (by simp [hl])
  intro i hi
  have hi2 : i < d := by simp at hi; omega
  rw [getD_take hi2, getD_take hi2, h i hi2]
/-- The lowest digits of what is no digit too great: the rest of the number is the upper digits'. -/
theorem gV_div {B : Int} (hB : 0 < B) {zs : List Int} {d : Nat} (hd : d ≤ zs.length) (h : ∀ i, i < d → 0 ≤ zs.getD i 0 ∧ zs.getD i 0 < B) : gV B zs / B ^ d = gV B (zs.drop d) := by
  have hr := gV_range hB (zs := zs.take d) (fun i hi => by
    have hi2 : i < d := by simp at hi; omega
    rw [getD_take hi2]
    exact h i hi2)
  rw [List.length_take, Nat.min_eq_left hd] at hr
  have hp : 0 < B ^ d := Int.pow_pos hB
  rw [gV_cut B zs d hd, Int.add_mul_ediv_left _ _ (by omega), Int.ediv_eq_zero_of_lt hr.1 hr.2, Int.zero_add]

theorem Blk.seti {w : World} {c : Nat} {k : IntKind} {zs : List Int} {t : TypeId} (h : Blk w c (ints k zs) t) (i : Nat) (z : Int) : Blk (w.setCell ⟨c, i, none⟩ (.int k z)) c (ints k (zs.set i z)) t := by
  rw [← ints_set]
  exact h.set i _
/-- The bytes of a number, as digits. -/
def dig (n x : Nat) : List Int := (bytesN n x).map fun b => (b.toNat : Int)
theorem dig_length (n x : Nat) : (dig n x).length = n := by simp [dig, bytesN_length]
theorem gV_bytes : ∀ (l : List UInt8), gV 256 (l.map fun b => (b.toNat : Int)) = (leN l : Nat)
  | [] => rfl
  | b :: r => by
    simp only [List.map_cons, gV, gV_bytes r, leN]
    omega
theorem gV_dig (n x : Nat) : gV 256 (dig n x) = ((x % 256 ^ n : Nat) : Int) := by
  unfold dig
  rw [gV_bytes, leN_bytesN]
theorem byte_digits (l : List UInt8) : ∀ i, i < (l.map fun b => (b.toNat : Int)).length → 0 ≤ (l.map fun b => (b.toNat : Int)).getD i 0 ∧ (l.map fun b => (b.toNat : Int)).getD i 0 < 256 := by
  intro i hi
  have hi2 : i < l.length := by simpa using hi
  rw [getD_eq hi, List.getElem_map]
  have := l[i].toNat_lt
  omega
theorem dig_digits (n x : Nat) : ∀ i, i < n → 0 ≤ (dig n x).getD i 0 ∧ (dig n x).getD i 0 < 256 := by
  intro i hi
  exact byte_digits (bytesN n x) i (by simp [bytesN_length, hi])
/-- Digits that are none too great are those of their number. -/
theorem dig_of {zs : List Int} {n x : Nat} (hl : zs.length = n) (h : ∀ i, i < n → 0 ≤ zs.getD i 0 ∧ zs.getD i 0 < 256) (hv : gV 256 zs = (x : Int)) : zs = dig n x := by
  have hr := gV_range (B := 256) (by omega) (zs := zs) (fun i hi => h i (by omega))
  have hx : x < 256 ^ n := by
    have h1 := hr.2
    rw [hv, hl] at h1
    have e : ((256 : Int) ^ n) = ((256 ^ n : Nat) : Int) := by simp
    rw [e] at h1
    omega
  refine gV_inj (B := 256) (by omega) (by rw [dig_length, hl]) (fun i hi => h i (by omega)) (fun i hi => dig_digits n x i (by rwa [dig_length] at hi)) ?_
  rw [gV_dig, Nat.mod_eq_of_lt hx, hv]

theorem bytesN_getD : ∀ (n x i : Nat), i < n → ((bytesN n x).getD i 0).toNat = x / 256 ^ i % 256
  | 0, _, _, h => by omega
  | n + 1, x, 0, _ => by
    simp only [bytesN, List.getD_cons_zero, Nat.pow_zero, Nat.div_one]
    rw [UInt8.toNat_ofNat']
    omega
  | n + 1, x, i + 1, h => by
    simp only [bytesN, List.getD_cons_succ]
    rw [bytesN_getD n (x / 256) i (by omega), Nat.div_div_eq_div_mul, Nat.pow_succ, Nat.mul_comm 256]

/-- The first k bytes of l, and noughts behind. -/
def fill (n : Nat) (l : List UInt8) (k : Nat) : List UInt8 := l.take k ++ List.replicate (n - k) 0
theorem fill_zero (n : Nat) (l : List UInt8) : fill n l 0 = List.replicate n 0 := by simp [fill]
theorem fill_full {n : Nat} {l : List UInt8} (h : l.length = n) : fill n l n = l := by simp [fill, ← h]
theorem fill_length {n k : Nat} {l : List UInt8} (h : l.length = n) (hk : k ≤ n) : (fill n l k).length = n := by simp [fill]; omega
theorem fill_set {n k : Nat} {l : List UInt8} (h : l.length = n) (hk : k < n) : (fill n l k).set k (l.getD k 0) = fill n l (k + 1) := by
  unfold fill
  have e1 : (l.take k).length = k := by simp; omega
  have e2 : n - k = (n - (k + 1)) + 1 := by omega
  have hk2 : k < l.length := by omega
  have e3 : l.getD k 0 = l[k] := by simp [List.getD, hk2]
  rw [List.set_append_right _ _ (by omega), e1, Nat.sub_self, e2, List.replicate_succ, List.set_cons_zero, e3, List.take_succ_eq_append_getElem hk2, List.append_assoc]
  rfl
theorem fill_set_val {n k : Nat} {l : List UInt8} (h : l.length = n) (hk : k < n) {z : Int} (hz : z = ((l.getD k 0).toNat : Int)) : ((fill n l k).map bval).set k (.int .u8 z) = (fill n l (k + 1)).map bval := by
  subst hz
  have : Value.int .u8 ((l.getD k 0).toNat : Int) = bval (l.getD k 0) := rfl
  rw [this, ← List.map_set, fill_set h hk]
theorem fill_start (n : Nat) (l : List UInt8) : (fill n l 0).map bval = ints .u8 (List.replicate n 0) := by
  rw [fill_zero]
  simp [ints, bval]

theorem or_i64 (a b : Nat) (ha : a < 9223372036854775808) (hb : b < 9223372036854775808) : bits .or .i64 (a : Int) (b : Int) = ((a ||| b : Nat) : Int) := by
  have e1 : (BitVec.ofInt 64 (a : Int)).toNat = a := by rw [BitVec.toNat_ofInt]; omega
  have e2 : (BitVec.ofInt 64 (b : Int)).toNat = b := by rw [BitVec.toNat_ofInt]; omega
  show IntKind.i64.wrap ((BitVec.ofInt 64 (a : Int) ||| BitVec.ofInt 64 (b : Int)).toNat : Nat) = _
  have e3 : a ||| b < 2 ^ 63 := Nat.or_lt_two_pow ha hb
  rw [BitVec.toNat_or, e1, e2, IntKind.wrap_i64]
  omega
theorem and_i64_255 (a : Int) (h1 : -9223372036854775808 ≤ a) (h2 : a ≤ 9223372036854775807) : bits .and .i64 a 255 = a % 256 := by
  have h : (BitVec.ofInt 64 255).toNat = 2 ^ 8 - 1 := by decide
  have key : (BitVec.ofInt 64 a &&& BitVec.ofInt 64 255).toNat = (a % ((2 ^ 64 : Nat) : Int)).toNat % 2 ^ 8 := by
    rw [BitVec.toNat_and, BitVec.toNat_ofInt, h, Nat.and_two_pow_sub_one_eq_mod]
  show IntKind.i64.wrap ((BitVec.ofInt 64 a &&& BitVec.ofInt 64 255).toNat : Nat) = _
  rw [key, IntKind.wrap_i64]
  omega
theorem and_i64_1 (a : Int) (h1 : -9223372036854775808 ≤ a) (h2 : a ≤ 9223372036854775807) : bits .and .i64 a 1 = a % 2 := by
  have h : (BitVec.ofInt 64 1).toNat = 2 ^ 1 - 1 := by decide
  have key : (BitVec.ofInt 64 a &&& BitVec.ofInt 64 1).toNat = (a % ((2 ^ 64 : Nat) : Int)).toNat % 2 ^ 1 := by
    rw [BitVec.toNat_and, BitVec.toNat_ofInt, h, Nat.and_two_pow_sub_one_eq_mod]
  show IntKind.i64.wrap ((BitVec.ofInt 64 a &&& BitVec.ofInt 64 1).toNat : Nat) = _
  rw [key, IntKind.wrap_i64]
  omega

end Go.Proofs.Ytdjdalaghfknoaa

/- What chapter 12's products come to: a number's bits that make no difference, and two that come to one secret. No program. Each theorem names its own conditions. -/
namespace Go.Proofs.Ytdjdalaghfknoaa
open Go.RowKit
set_option linter.unusedVariables false

theorem leN_byteL (l : List UInt8) (i : Nat) (h : i < l.length) : (l.getD i 0).toNat = leN l / 256 ^ i % 256 := by
  have e := bytesN_leN l
  have h2 := bytesN_getD l.length (leN l) i h
  rw [e] at h2
  exact h2
theorem leN_top {l : List UInt8} (h : l.length = 32) (ht : (l.getD 31 0).toNat < 128) : leN l < 2 ^ 255 := by
  have h1 := leN_byteL l 31 (by omega)
  have h2 := leN_lt l
  rw [h] at h2
  have e : (256 : Nat) ^ 32 = 256 ^ 31 * 256 := by decide +kernel
  have h3 : leN l / 256 ^ 31 < 256 := (Nat.div_lt_iff_lt_mul (by decide)).2 (by rw [Nat.mul_comm, ← e]; exact h2)
  rw [Nat.mod_eq_of_lt h3] at h1
  rw [h1] at ht
  have h4 := (Nat.div_lt_iff_lt_mul (by decide)).1 ht
  have e2 : (128 : Nat) * 256 ^ 31 = 2 ^ 255 := by decide +kernel
  rw [e2] at h4
  exact h4
theorem u8_mask (b : UInt8) (h : b.toNat < 128) : b &&& 127 = b := by
  have hh : ∀ n : Fin 128, (UInt8.ofNat n.val) &&& 127 = UInt8.ofNat n.val := by decide +kernel
  have := hh ⟨b.toNat, h⟩
  simpa using this
theorem mask_id {l : List UInt8} (h : l.length = 32) (ht : (l.getD 31 0).toNat < 128) : maskB l = l := by
  unfold maskB
  rw [u8_mask _ ht]
  apply List.ext_getElem?
  intro i
  rw [List.getElem?_set]
  split
  · rename_i e
    subst e
    rw [List.getD_eq_getElem?_getD, List.getElem?_eq_getElem (by omega)]
    simp [h]
  · rfl
theorem nbF_top (f : Fp) : ((nbF f).getD 31 0).toNat < 128 := by
  unfold nbF
  rw [bytesN_getD 32 f.val 31 (by omega)]
  have h1 := f.isLt
  have h2 : f.val < 2 ^ 255 := Nat.lt_trans h1 (by decide +kernel)
  have e2 : (2 : Nat) ^ 255 = 128 * 256 ^ 31 := by decide +kernel
  rw [e2] at h2
  have h3 := (Nat.div_lt_iff_lt_mul (by decide : 0 < 256 ^ 31)).2 h2
  omega
theorem mask_nbF (f : Fp) : maskB (nbF f) = nbF f := mask_id (nbF_length f) (nbF_top f)
theorem fp_nbF (f : Fp) : fp (leN (nbF f)) = f := by
  unfold nbF
  rw [leN_bytesN, Nat.mod_eq_of_lt (Nat.lt_trans f.isLt (by decide +kernel))]
  apply Fin.ext
  rw [fp_val, Int.emod_eq_of_lt (Int.natCast_nonneg _) (by have := f.isLt; have e : pP = ((pN : Nat) : Int) := (by decide +kernel); rw [e]; exact Int.ofNat_lt.2 this)]
  rfl
theorem ladB_nbF (k : List UInt8) (f : Fp) : ladB k (nbF f) = nbF (lmul (leN (clampB k)) f) := by
  unfold ladB
  rw [mask_nbF, fp_nbF]

theorem u8_ctop (b : UInt8) : (b &&& 127 ||| 64).toNat < 128 := by
  have hh : ∀ n : Fin 256, ((UInt8.ofNat n.val) &&& 127 ||| 64).toNat < 128 := by decide +kernel
  have := hh ⟨b.toNat, b.toNat_lt⟩
  simpa using this
theorem u8_clow (b : UInt8) : (b &&& 248).toNat % 8 = 0 := by
  have hh : ∀ n : Fin 256, ((UInt8.ofNat n.val) &&& 248).toNat % 8 = 0 := by decide +kernel
  have := hh ⟨b.toNat, b.toNat_lt⟩
  simpa using this
theorem clamp_lt {k : List UInt8} (h : k.length = 32) : leN (clampB k) < 2 ^ 255 := by
  refine leN_top (clampB_length h) ?_
  unfold clampB
  rw [List.getD_eq_getElem?_getD, List.getElem?_set_self (by simp [h])]
  exact u8_ctop _
theorem clamp_low {k : List UInt8} (h : k.length = 32) : leN (clampB k) % 8 = 0 := by
  have h1 := leN_byteL (clampB k) 0 (by rw [clampB_length h]; omega)
  have h2 : ((clampB k).getD 0 0).toNat % 8 = 0 := by
    unfold clampB
    rw [List.getD_eq_getElem?_getD, List.getElem?_set_ne (by omega), List.getElem?_set_self (by simp [h])]
    exact u8_clow _
  rw [h1] at h2
  simp at h2
  omega
theorem nine_uv : fp (leN (maskB nineB)) = uv bP := by
  rw [uv_base]
  decide +kernel
theorem pubB_eq (k : List UInt8) : pubB k = nbF (lmul (leN (clampB k)) (uv bP)) := by
  unfold pubB ladB
  rw [nine_uv]
/-- Two come to one secret. -/
theorem lad_shares {a b : List UInt8} (ha : a.length = 32) (hb : b.length = 32) : ladB a (pubB b) = ladB b (pubB a) := by
  rw [pubB_eq, pubB_eq, ladB_nbF, ladB_nbF, lmul_comm bP (clamp_lt ha) (by have := clamp_low ha; omega) (clamp_lt hb) (by have := clamp_low hb; omega)]

end Go.Proofs.Ytdjdalaghfknoaa

/- Three numbers come to the same in any order. No program. Each theorem names its own conditions. -/
namespace Go.Proofs.Ytdjdalaghfknoaa
open Go.RowKit

theorem lad_three {a b c : List UInt8} (ha : a.length = 32) (hb : b.length = 32) (hc : c.length = 32) : ladB a (ladB b (pubB c)) = ladB c (ladB a (pubB b)) := by
  have a1 := clamp_lt ha
  have b1 := clamp_lt hb
  have c1 := clamp_lt hc
  have a2 : leN (clampB a) % 2 = 0 := by have := clamp_low ha; omega
  have b2 : leN (clampB b) % 2 = 0 := by have := clamp_low hb; omega
  have c2 : leN (clampB c) % 2 = 0 := by have := clamp_low hc; omega
  rw [pubB_eq, pubB_eq, ladB_nbF, ladB_nbF, ladB_nbF, ladB_nbF, lmul_comm bP b1 b2 c1 c2, lmul_uv bP b1 b2, lmul_comm (pmul (leN (clampB b)) bP) a1 a2 c1 c2]

end Go.Proofs.Ytdjdalaghfknoaa

/- LadderThree walks to true. Each theorem names its own conditions. -/
namespace Go.Proofs.Ytdjdalaghfknoaa
open Go.RowKit
set_option linter.unusedVariables false
set_option linter.unusedSimpArgs false

set_option maxRecDepth 100000 in
set_option maxHeartbeats 8000000 in
theorem ladderThree_any (a b c : List UInt8) (w : World) (ha : a.length = 32) (hb : b.length = 32) (hc : c.length = 32) : Calls Try.prog 7 #[.agg (a.map bval).toArray, .agg (b.map bval).toArray, .agg (c.map bval).toArray] w fun e w' => e = .returned (.bool true) ∧ Below w.heap.size w w' := by
  have HB := Lib.hid (boxes3 w (a.map bval) (b.map bval) (c.map bval) 23 23 23)
  have HAL := Lib.hid ha
  have HBL := Lib.hid hb
  have HCL := Lib.hid hc
  clear ha hb hc
  go_enter Try.func7, Try.ntmps7
  go_upto_region 1 with (fail)
  obtain ⟨H1, H2, H3, HE⟩ := HB.out
  change Code.wp _ _ _ _ (((w.alloc (.cells (a.map bval).toArray 23)).alloc (.cells (b.map bval).toArray 23)).alloc (.cells (c.map bval).toArray 23))
  generalize ((w.alloc (.cells (a.map bval).toArray 23)).alloc (.cells (b.map bval).toArray 23)).alloc (.cells (c.map bval).toArray 23) = wa at *
  obtain ⟨A, hA⟩ : ∃ A, A = w.heap.size := ⟨_, rfl⟩
  rw [← hA] at H1 H2 H3 ⊢
  have H1 := Lib.hid H1
  have H2 := Lib.hid H2
  have H3 := Lib.hid H3
  have HE : Hid (Ext w wa) := Lib.hid HE
  clear hA HB
  have HIA := Lib.hid (num_size HAL.out)
  have HIB := Lib.hid (num_size HBL.out)
  have HIC := Lib.hid (num_size HCL.out)
  go_wp2_with fail
  refine (alive_any12 wa).mono ?_
  rintro e wb ⟨rfl, hb⟩
  have H1 := Lib.hid (ext_blk H1.out hb)
  have H2 := Lib.hid (ext_blk H2.out hb)
  have H3 := Lib.hid (ext_blk H3.out hb)
  have HE := Lib.hid (HE.out.trans hb)
  clear hb
  obtain ⟨p, hp⟩ : ∃ p, p = pubB c := ⟨_, rfl⟩
  obtain ⟨q, hq⟩ : ∃ q, q = ladB b p := ⟨_, rfl⟩
  obtain ⟨z, hz⟩ : ∃ z, z = ladB a q := ⟨_, rfl⟩
  obtain ⟨r, hr⟩ : ∃ r, r = pubB b := ⟨_, rfl⟩
  obtain ⟨s, hs⟩ : ∃ s, s = ladB a r := ⟨_, rfl⟩
  have HZC : Hid (ladB c s = z) := Lib.hid (by rw [hz, hq, hp, hs, hr]; exact (lad_three HAL.out HBL.out HCL.out).symm)
  have HpL : Hid (p.length = 32) := Lib.hid (by rw [hp]; exact ladB_length _ _)
  have HqL : Hid (q.length = 32) := Lib.hid (by rw [hq]; exact ladB_length _ _)
  have HzL : Hid (z.length = 32) := Lib.hid (by rw [hz]; exact ladB_length _ _)
  have HrL : Hid (r.length = 32) := Lib.hid (by rw [hr]; exact ladB_length _ _)
  have HsL : Hid (s.length = 32) := Lib.hid (by rw [hs]; exact ladB_length _ _)
  have K1 : Hid (∀ w, Calls Try.prog 16 #[.agg (c.map bval).toArray] w fun e w' => e = .returned (.agg (p.map bval).toArray) ∧ Below w.heap.size w w') := Lib.hid (fun w => by rw [hp]; exact LPub_num c w HCL.out)
  have K2 : Hid (∀ w, Calls Try.prog 13 #[.agg (b.map bval).toArray, .agg (p.map bval).toArray] w fun e w' => e = .returned (.agg (q.map bval).toArray) ∧ Below w.heap.size w w') := Lib.hid (fun w => by rw [hq]; exact LMul_num b p w HBL.out HpL.out)
  have K3 : Hid (∀ w, Calls Try.prog 13 #[.agg (a.map bval).toArray, .agg (q.map bval).toArray] w fun e w' => e = .returned (.agg (z.map bval).toArray) ∧ Below w.heap.size w w') := Lib.hid (fun w => by rw [hz]; exact LMul_num a q w HAL.out HqL.out)
  have K4 : Hid (∀ w, Calls Try.prog 16 #[.agg (b.map bval).toArray] w fun e w' => e = .returned (.agg (r.map bval).toArray) ∧ Below w.heap.size w w') := Lib.hid (fun w => by rw [hr]; exact LPub_num b w HBL.out)
  have K5 : Hid (∀ w, Calls Try.prog 13 #[.agg (a.map bval).toArray, .agg (r.map bval).toArray] w fun e w' => e = .returned (.agg (s.map bval).toArray) ∧ Below w.heap.size w w') := Lib.hid (fun w => by rw [hs]; exact LMul_num a r w HAL.out HrL.out)
  have K6 : Hid (∀ w, Calls Try.prog 13 #[.agg (c.map bval).toArray, .agg (s.map bval).toArray] w fun e w' => e = .returned (.agg (z.map bval).toArray) ∧ Below w.heap.size w w') := Lib.hid (fun w => by rw [← HZC.out]; exact LMul_num c s w HCL.out HsL.out)
  clear hz hp hq hr hs HZC
  go_wp2_with fail
  try simp only [Act.put, List.getElem_toArray, List.getElem_cons_zero, List.getElem_cons_succ, List.setIfInBounds_toArray, List.set_cons_zero, List.set_cons_succ]
  go_cut [8] from 11 to 16 (fun vq wq => ∃ g, vq = .pointer (some ⟨g, 0, none⟩) ∧ Blk wq g (z.map bval) 23 ∧ Ext wb wq)
  case first =>
    have B0 : Ext wb wb.drew := Ext.drew _
    refine wp_region_held_drew (S := fun w' => Ext wb w') (by kernel_rfl) B0 (fun hHeld => ?_)
    refine wpAnyH_take (i := 0) (v := .agg ((a).map bval).toArray) rfl (by kernel_rfl) (by kernel_rfl) (by kernel_rfl) (fun _ _ _ h => h) (yieldsIf_load_mid (by rfl) _ _ rfl A 0 rfl _ _ (fun w h => bl_range H1.out h) Try.underlying23 rfl HIA.out) hHeld ?_
    simp only [Act.put, List.getElem_toArray, List.getElem_cons_zero, List.getElem_cons_succ, List.setIfInBounds_toArray, List.set_cons_zero, List.set_cons_succ]
    refine wpAnyH_take (i := 1) (v := .agg ((b).map bval).toArray) rfl (by kernel_rfl) (by kernel_rfl) (by kernel_rfl) (fun _ _ _ h => h) (yieldsIf_load_mid (by rfl) _ _ rfl (A + 1) 0 rfl _ _ (fun w h => bl_range H2.out h) Try.underlying23 rfl HIB.out) hHeld ?_
    simp only [Act.put, List.getElem_toArray, List.getElem_cons_zero, List.getElem_cons_succ, List.setIfInBounds_toArray, List.set_cons_zero, List.set_cons_succ]
    refine wpAnyH_take (i := 2) (v := .agg ((c).map bval).toArray) rfl (by kernel_rfl) (by kernel_rfl) (by kernel_rfl) (fun _ _ _ h => h) (yieldsIf_load_mid (by rfl) _ _ rfl (A + 1 + 1) 0 rfl _ _ (fun w h => bl_range H3.out h) Try.underlying23 rfl HIC.out) hHeld ?_
    simp only [Act.put, List.getElem_toArray, List.getElem_cons_zero, List.getElem_cons_succ, List.setIfInBounds_toArray, List.set_cons_zero, List.set_cons_succ]
    refine wpAnyH_ready (rs := [3, 6]) (by kernel_rfl) (by simp) (AllReadyH.cons rfl (fun K hK => ?_) (AllReadyH.cons rfl (fun K hK => ?_) AllReadyH.nil))
    · go_simp
      refine (K1.out _).mono ?_
      rintro e m1 ⟨rfl, b1⟩
      have N1 : Ext wb m1 := B0.trans b1
      refine hK.out _ _ N1 (fun hHeld => ?_)
      clear hK K
      try simp only [Act.put, List.getElem_toArray, List.getElem_cons_zero, List.getElem_cons_succ, List.setIfInBounds_toArray, List.set_cons_zero, List.set_cons_succ]
      refine wpAnyH_ready (rs := [4, 6]) (by kernel_rfl) (by simp) (AllReadyH.cons rfl (fun K hK => ?_) (AllReadyH.cons rfl (fun K hK => ?_) AllReadyH.nil))
      · go_simp
        refine (K2.out _).mono ?_
        rintro e m2 ⟨rfl, b2⟩
        have N2 : Ext wb m2 := N1.trans b2
        refine hK.out _ _ N2 (fun hHeld => ?_)
        clear hK K
        try simp only [Act.put, List.getElem_toArray, List.getElem_cons_zero, List.getElem_cons_succ, List.setIfInBounds_toArray, List.set_cons_zero, List.set_cons_succ]
        refine wpAnyH_ready (rs := [5, 6]) (by kernel_rfl) (by simp) (AllReadyH.cons rfl (fun K hK => ?_) (AllReadyH.cons rfl (fun K hK => ?_) AllReadyH.nil))
        · go_simp
          refine (K3.out _).mono ?_
          rintro e m3 ⟨rfl, b3⟩
          have N3 : Ext wb m3 := N2.trans b3
          refine hK.out _ _ N3 (fun hHeld => ?_)
          clear hK K
          try simp only [Act.put, List.getElem_toArray, List.getElem_cons_zero, List.getElem_cons_succ, List.setIfInBounds_toArray, List.set_cons_zero, List.set_cons_succ]
          refine wpAnyH_ready (rs := [6]) (by kernel_rfl) (by simp) (AllReadyH.cons rfl (fun K hK => ?_) AllReadyH.nil)
          refine step_wp (by rfl) ?_
          refine wp_alloc_d (some 8) _ zero32 rfl rfl Try.zeroValue23 ?_
          obtain ⟨m4, hm4⟩ : ∃ wNew, wNew = World.alloc m3 (.cells (zero32).toArray 23) := ⟨_, rfl⟩
          rw [← hm4]
          have b4 : Ext m3 m4 := by rw [hm4]; exact Ext.alloc _ _
          obtain ⟨g4, hg4⟩ : ∃ gNew, gNew = (m3).heap.size := ⟨_, rfl⟩
          rw [← hg4]
          have z4 : Blk m4 g4 zero32 23 := by rw [hm4, hg4]; exact Blk.made _ _ _
          have l4 : (wb).heap.size ≤ g4 := by rw [hg4]; exact N3.size
          clear hm4 hg4
          have N4 : Ext wb m4 := N3.trans b4
          refine hK.out _ _ N4 (fun hHeld => ?_)
          clear hK K
          try simp only [Act.put, List.getElem_toArray, List.getElem_cons_zero, List.getElem_cons_succ, List.setIfInBounds_toArray, List.set_cons_zero, List.set_cons_succ]
          refine wpAnyH_ready (rs := [7]) (by kernel_rfl) (by simp) (AllReadyH.cons rfl (fun K hK => ?_) AllReadyH.nil)
          refine step_wp (by rfl) ?_
          refine wp_store_blk _ _ _ rfl g4 ((z).map bval) rfl rfl _ _ z4 (by rw [List.length_map, HzL.out]; rfl) (num_size (HzL.out)) (bval_one _) ?_
          intro m5 hb5 hg5
          have N5 : Ext wb m5 := ext_grown N4 hg5 l4
          refine hK.out _ _ N5 (fun hHeld => ?_)
          clear hK K
          try simp only [Act.put, List.getElem_toArray, List.getElem_cons_zero, List.getElem_cons_succ, List.setIfInBounds_toArray, List.set_cons_zero, List.set_cons_succ]
          refine wpAnyH_done (by kernel_rfl) ?_ _
          go_wp2_with fail
          go_meet
          exact ⟨_, rfl, hb5, N5⟩
        · refine step_wp (by rfl) ?_
          refine wp_alloc_d (some 8) _ zero32 rfl rfl Try.zeroValue23 ?_
          obtain ⟨m3, hm3⟩ : ∃ wNew, wNew = World.alloc m2 (.cells (zero32).toArray 23) := ⟨_, rfl⟩
          rw [← hm3]
          have b3 : Ext m2 m3 := by rw [hm3]; exact Ext.alloc _ _
          obtain ⟨g3, hg3⟩ : ∃ gNew, gNew = (m2).heap.size := ⟨_, rfl⟩
          rw [← hg3]
          have z3 : Blk m3 g3 zero32 23 := by rw [hm3, hg3]; exact Blk.made _ _ _
          have l3 : (wb).heap.size ≤ g3 := by rw [hg3]; exact N2.size
          clear hm3 hg3
          have N3 : Ext wb m3 := N2.trans b3
          refine hK.out _ _ N3 (fun hHeld => ?_)
          clear hK K
          try simp only [Act.put, List.getElem_toArray, List.getElem_cons_zero, List.getElem_cons_succ, List.setIfInBounds_toArray, List.set_cons_zero, List.set_cons_succ]
          refine wpAnyH_ready (rs := [5]) (by kernel_rfl) (by simp) (AllReadyH.cons rfl (fun K hK => ?_) AllReadyH.nil)
          go_simp
          refine (K3.out _).mono ?_
          rintro e m4 ⟨rfl, b4⟩
          have z3 := z3.below b4
          have N4 : Ext wb m4 := N3.trans b4
          refine hK.out _ _ N4 (fun hHeld => ?_)
          clear hK K
          try simp only [Act.put, List.getElem_toArray, List.getElem_cons_zero, List.getElem_cons_succ, List.setIfInBounds_toArray, List.set_cons_zero, List.set_cons_succ]
          refine wpAnyH_ready (rs := [7]) (by kernel_rfl) (by simp) (AllReadyH.cons rfl (fun K hK => ?_) AllReadyH.nil)
          refine step_wp (by rfl) ?_
          refine wp_store_blk _ _ _ rfl g3 ((z).map bval) rfl rfl _ _ z3 (by rw [List.length_map, HzL.out]; rfl) (num_size (HzL.out)) (bval_one _) ?_
          intro m5 hb5 hg5
          have N5 : Ext wb m5 := ext_grown N4 hg5 l3
          refine hK.out _ _ N5 (fun hHeld => ?_)
          clear hK K
          try simp only [Act.put, List.getElem_toArray, List.getElem_cons_zero, List.getElem_cons_succ, List.setIfInBounds_toArray, List.set_cons_zero, List.set_cons_succ]
          refine wpAnyH_done (by kernel_rfl) ?_ _
          go_wp2_with fail
          go_meet
          exact ⟨_, rfl, hb5, N5⟩
      · refine step_wp (by rfl) ?_
        refine wp_alloc_d (some 8) _ zero32 rfl rfl Try.zeroValue23 ?_
        obtain ⟨m2, hm2⟩ : ∃ wNew, wNew = World.alloc m1 (.cells (zero32).toArray 23) := ⟨_, rfl⟩
        rw [← hm2]
        have b2 : Ext m1 m2 := by rw [hm2]; exact Ext.alloc _ _
        obtain ⟨g2, hg2⟩ : ∃ gNew, gNew = (m1).heap.size := ⟨_, rfl⟩
        rw [← hg2]
        have z2 : Blk m2 g2 zero32 23 := by rw [hm2, hg2]; exact Blk.made _ _ _
        have l2 : (wb).heap.size ≤ g2 := by rw [hg2]; exact N1.size
        clear hm2 hg2
        have N2 : Ext wb m2 := N1.trans b2
        refine hK.out _ _ N2 (fun hHeld => ?_)
        clear hK K
        try simp only [Act.put, List.getElem_toArray, List.getElem_cons_zero, List.getElem_cons_succ, List.setIfInBounds_toArray, List.set_cons_zero, List.set_cons_succ]
        refine wpAnyH_ready (rs := [4]) (by kernel_rfl) (by simp) (AllReadyH.cons rfl (fun K hK => ?_) AllReadyH.nil)
        go_simp
        refine (K2.out _).mono ?_
        rintro e m3 ⟨rfl, b3⟩
        have z2 := z2.below b3
        have N3 : Ext wb m3 := N2.trans b3
        refine hK.out _ _ N3 (fun hHeld => ?_)
        clear hK K
        try simp only [Act.put, List.getElem_toArray, List.getElem_cons_zero, List.getElem_cons_succ, List.setIfInBounds_toArray, List.set_cons_zero, List.set_cons_succ]
        refine wpAnyH_ready (rs := [5]) (by kernel_rfl) (by simp) (AllReadyH.cons rfl (fun K hK => ?_) AllReadyH.nil)
        go_simp
        refine (K3.out _).mono ?_
        rintro e m4 ⟨rfl, b4⟩
        have z2 := z2.below b4
        have N4 : Ext wb m4 := N3.trans b4
        refine hK.out _ _ N4 (fun hHeld => ?_)
        clear hK K
        try simp only [Act.put, List.getElem_toArray, List.getElem_cons_zero, List.getElem_cons_succ, List.setIfInBounds_toArray, List.set_cons_zero, List.set_cons_succ]
        refine wpAnyH_ready (rs := [7]) (by kernel_rfl) (by simp) (AllReadyH.cons rfl (fun K hK => ?_) AllReadyH.nil)
        refine step_wp (by rfl) ?_
        refine wp_store_blk _ _ _ rfl g2 ((z).map bval) rfl rfl _ _ z2 (by rw [List.length_map, HzL.out]; rfl) (num_size (HzL.out)) (bval_one _) ?_
        intro m5 hb5 hg5
        have N5 : Ext wb m5 := ext_grown N4 hg5 l2
        refine hK.out _ _ N5 (fun hHeld => ?_)
        clear hK K
        try simp only [Act.put, List.getElem_toArray, List.getElem_cons_zero, List.getElem_cons_succ, List.setIfInBounds_toArray, List.set_cons_zero, List.set_cons_succ]
        refine wpAnyH_done (by kernel_rfl) ?_ _
        go_wp2_with fail
        go_meet
        exact ⟨_, rfl, hb5, N5⟩
    · refine step_wp (by rfl) ?_
      refine wp_alloc_d (some 8) _ zero32 rfl rfl Try.zeroValue23 ?_
      obtain ⟨m1, hm1⟩ : ∃ wNew, wNew = World.alloc wb.drew (.cells (zero32).toArray 23) := ⟨_, rfl⟩
      rw [← hm1]
      have b1 : Ext wb.drew m1 := by rw [hm1]; exact Ext.alloc _ _
      obtain ⟨g1, hg1⟩ : ∃ gNew, gNew = (wb.drew).heap.size := ⟨_, rfl⟩
      rw [← hg1]
      have z1 : Blk m1 g1 zero32 23 := by rw [hm1, hg1]; exact Blk.made _ _ _
      have l1 : (wb).heap.size ≤ g1 := by rw [hg1]; exact B0.size
      clear hm1 hg1
      have N1 : Ext wb m1 := B0.trans b1
      refine hK.out _ _ N1 (fun hHeld => ?_)
      clear hK K
      try simp only [Act.put, List.getElem_toArray, List.getElem_cons_zero, List.getElem_cons_succ, List.setIfInBounds_toArray, List.set_cons_zero, List.set_cons_succ]
      refine wpAnyH_ready (rs := [3]) (by kernel_rfl) (by simp) (AllReadyH.cons rfl (fun K hK => ?_) AllReadyH.nil)
      go_simp
      refine (K1.out _).mono ?_
      rintro e m2 ⟨rfl, b2⟩
      have z1 := z1.below b2
      have N2 : Ext wb m2 := N1.trans b2
      refine hK.out _ _ N2 (fun hHeld => ?_)
      clear hK K
      try simp only [Act.put, List.getElem_toArray, List.getElem_cons_zero, List.getElem_cons_succ, List.setIfInBounds_toArray, List.set_cons_zero, List.set_cons_succ]
      refine wpAnyH_ready (rs := [4]) (by kernel_rfl) (by simp) (AllReadyH.cons rfl (fun K hK => ?_) AllReadyH.nil)
      go_simp
      refine (K2.out _).mono ?_
      rintro e m3 ⟨rfl, b3⟩
      have z1 := z1.below b3
      have N3 : Ext wb m3 := N2.trans b3
      refine hK.out _ _ N3 (fun hHeld => ?_)
      clear hK K
      try simp only [Act.put, List.getElem_toArray, List.getElem_cons_zero, List.getElem_cons_succ, List.setIfInBounds_toArray, List.set_cons_zero, List.set_cons_succ]
      refine wpAnyH_ready (rs := [5]) (by kernel_rfl) (by simp) (AllReadyH.cons rfl (fun K hK => ?_) AllReadyH.nil)
      go_simp
      refine (K3.out _).mono ?_
      rintro e m4 ⟨rfl, b4⟩
      have z1 := z1.below b4
      have N4 : Ext wb m4 := N3.trans b4
      refine hK.out _ _ N4 (fun hHeld => ?_)
      clear hK K
      try simp only [Act.put, List.getElem_toArray, List.getElem_cons_zero, List.getElem_cons_succ, List.setIfInBounds_toArray, List.set_cons_zero, List.set_cons_succ]
      refine wpAnyH_ready (rs := [7]) (by kernel_rfl) (by simp) (AllReadyH.cons rfl (fun K hK => ?_) AllReadyH.nil)
      refine step_wp (by rfl) ?_
      refine wp_store_blk _ _ _ rfl g1 ((z).map bval) rfl rfl _ _ z1 (by rw [List.length_map, HzL.out]; rfl) (num_size (HzL.out)) (bval_one _) ?_
      intro m5 hb5 hg5
      have N5 : Ext wb m5 := ext_grown N4 hg5 l1
      refine hK.out _ _ N5 (fun hHeld => ?_)
      clear hK K
      try simp only [Act.put, List.getElem_toArray, List.getElem_cons_zero, List.getElem_cons_succ, List.setIfInBounds_toArray, List.set_cons_zero, List.set_cons_succ]
      refine wpAnyH_done (by kernel_rfl) ?_ _
      go_wp2_with fail
      go_meet
      exact ⟨_, rfl, hb5, N5⟩
  case rest =>
  obtain ⟨D, rfl, hbk, hX⟩ := hcut
  have H1 := Lib.hid (ext_blk H1.out hX)
  have H2 := Lib.hid (ext_blk H2.out hX)
  have H3 := Lib.hid (ext_blk H3.out hX)
  have HE := Lib.hid (HE.out.trans hX)
  have HD := Lib.hid hbk
  clear hbk hX
  generalize wc = wd at *
  go_wp2_with fail
  try simp only [Act.put, List.getElem_toArray, List.getElem_cons_zero, List.getElem_cons_succ, List.setIfInBounds_toArray, List.set_cons_zero, List.set_cons_succ]
  go_cut [9] from 17 to 22 (fun vq wq => ∃ g, vq = .pointer (some ⟨g, 0, none⟩) ∧ Blk wq g (z.map bval) 23 ∧ Ext wd wq)
  case first =>
    have B0 : Ext wd wd.drew := Ext.drew _
    refine wp_region_held_drew (S := fun w' => Ext wd w') (by kernel_rfl) B0 (fun hHeld => ?_)
    refine wpAnyH_take (i := 0) (v := .agg ((c).map bval).toArray) rfl (by kernel_rfl) (by kernel_rfl) (by kernel_rfl) (fun _ _ _ h => h) (yieldsIf_load_mid (by rfl) _ _ rfl (A + 1 + 1) 0 rfl _ _ (fun w h => bl_range H3.out h) Try.underlying23 rfl HIC.out) hHeld ?_
    simp only [Act.put, List.getElem_toArray, List.getElem_cons_zero, List.getElem_cons_succ, List.setIfInBounds_toArray, List.set_cons_zero, List.set_cons_succ]
    refine wpAnyH_take (i := 1) (v := .agg ((a).map bval).toArray) rfl (by kernel_rfl) (by kernel_rfl) (by kernel_rfl) (fun _ _ _ h => h) (yieldsIf_load_mid (by rfl) _ _ rfl A 0 rfl _ _ (fun w h => bl_range H1.out h) Try.underlying23 rfl HIA.out) hHeld ?_
    simp only [Act.put, List.getElem_toArray, List.getElem_cons_zero, List.getElem_cons_succ, List.setIfInBounds_toArray, List.set_cons_zero, List.set_cons_succ]
    refine wpAnyH_take (i := 2) (v := .agg ((b).map bval).toArray) rfl (by kernel_rfl) (by kernel_rfl) (by kernel_rfl) (fun _ _ _ h => h) (yieldsIf_load_mid (by rfl) _ _ rfl (A + 1) 0 rfl _ _ (fun w h => bl_range H2.out h) Try.underlying23 rfl HIB.out) hHeld ?_
    simp only [Act.put, List.getElem_toArray, List.getElem_cons_zero, List.getElem_cons_succ, List.setIfInBounds_toArray, List.set_cons_zero, List.set_cons_succ]
    refine wpAnyH_ready (rs := [3, 6]) (by kernel_rfl) (by simp) (AllReadyH.cons rfl (fun K hK => ?_) (AllReadyH.cons rfl (fun K hK => ?_) AllReadyH.nil))
    · go_simp
      refine (K4.out _).mono ?_
      rintro e m1 ⟨rfl, b1⟩
      have N1 : Ext wd m1 := B0.trans b1
      refine hK.out _ _ N1 (fun hHeld => ?_)
      clear hK K
      try simp only [Act.put, List.getElem_toArray, List.getElem_cons_zero, List.getElem_cons_succ, List.setIfInBounds_toArray, List.set_cons_zero, List.set_cons_succ]
      refine wpAnyH_ready (rs := [4, 6]) (by kernel_rfl) (by simp) (AllReadyH.cons rfl (fun K hK => ?_) (AllReadyH.cons rfl (fun K hK => ?_) AllReadyH.nil))
      · go_simp
        refine (K5.out _).mono ?_
        rintro e m2 ⟨rfl, b2⟩
        have N2 : Ext wd m2 := N1.trans b2
        refine hK.out _ _ N2 (fun hHeld => ?_)
        clear hK K
        try simp only [Act.put, List.getElem_toArray, List.getElem_cons_zero, List.getElem_cons_succ, List.setIfInBounds_toArray, List.set_cons_zero, List.set_cons_succ]
        refine wpAnyH_ready (rs := [5, 6]) (by kernel_rfl) (by simp) (AllReadyH.cons rfl (fun K hK => ?_) (AllReadyH.cons rfl (fun K hK => ?_) AllReadyH.nil))
        · go_simp
          refine (K6.out _).mono ?_
          rintro e m3 ⟨rfl, b3⟩
          have N3 : Ext wd m3 := N2.trans b3
          refine hK.out _ _ N3 (fun hHeld => ?_)
          clear hK K
          try simp only [Act.put, List.getElem_toArray, List.getElem_cons_zero, List.getElem_cons_succ, List.setIfInBounds_toArray, List.set_cons_zero, List.set_cons_succ]
          refine wpAnyH_ready (rs := [6]) (by kernel_rfl) (by simp) (AllReadyH.cons rfl (fun K hK => ?_) AllReadyH.nil)
          refine step_wp (by rfl) ?_
          refine wp_alloc_d (some 9) _ zero32 rfl rfl Try.zeroValue23 ?_
          obtain ⟨m4, hm4⟩ : ∃ wNew, wNew = World.alloc m3 (.cells (zero32).toArray 23) := ⟨_, rfl⟩
          rw [← hm4]
          have b4 : Ext m3 m4 := by rw [hm4]; exact Ext.alloc _ _
          obtain ⟨g4, hg4⟩ : ∃ gNew, gNew = (m3).heap.size := ⟨_, rfl⟩
          rw [← hg4]
          have z4 : Blk m4 g4 zero32 23 := by rw [hm4, hg4]; exact Blk.made _ _ _
          have l4 : (wd).heap.size ≤ g4 := by rw [hg4]; exact N3.size
          clear hm4 hg4
          have N4 : Ext wd m4 := N3.trans b4
          refine hK.out _ _ N4 (fun hHeld => ?_)
          clear hK K
          try simp only [Act.put, List.getElem_toArray, List.getElem_cons_zero, List.getElem_cons_succ, List.setIfInBounds_toArray, List.set_cons_zero, List.set_cons_succ]
          refine wpAnyH_ready (rs := [7]) (by kernel_rfl) (by simp) (AllReadyH.cons rfl (fun K hK => ?_) AllReadyH.nil)
          refine step_wp (by rfl) ?_
          refine wp_store_blk _ _ _ rfl g4 ((z).map bval) rfl rfl _ _ z4 (by rw [List.length_map, HzL.out]; rfl) (num_size (HzL.out)) (bval_one _) ?_
          intro m5 hb5 hg5
          have N5 : Ext wd m5 := ext_grown N4 hg5 l4
          refine hK.out _ _ N5 (fun hHeld => ?_)
          clear hK K
          try simp only [Act.put, List.getElem_toArray, List.getElem_cons_zero, List.getElem_cons_succ, List.setIfInBounds_toArray, List.set_cons_zero, List.set_cons_succ]
          refine wpAnyH_done (by kernel_rfl) ?_ _
          go_wp2_with fail
          go_meet
          exact ⟨_, rfl, hb5, N5⟩
        · refine step_wp (by rfl) ?_
          refine wp_alloc_d (some 9) _ zero32 rfl rfl Try.zeroValue23 ?_
          obtain ⟨m3, hm3⟩ : ∃ wNew, wNew = World.alloc m2 (.cells (zero32).toArray 23) := ⟨_, rfl⟩
          rw [← hm3]
          have b3 : Ext m2 m3 := by rw [hm3]; exact Ext.alloc _ _
          obtain ⟨g3, hg3⟩ : ∃ gNew, gNew = (m2).heap.size := ⟨_, rfl⟩
          rw [← hg3]
          have z3 : Blk m3 g3 zero32 23 := by rw [hm3, hg3]; exact Blk.made _ _ _
          have l3 : (wd).heap.size ≤ g3 := by rw [hg3]; exact N2.size
          clear hm3 hg3
          have N3 : Ext wd m3 := N2.trans b3
          refine hK.out _ _ N3 (fun hHeld => ?_)
          clear hK K
          try simp only [Act.put, List.getElem_toArray, List.getElem_cons_zero, List.getElem_cons_succ, List.setIfInBounds_toArray, List.set_cons_zero, List.set_cons_succ]
          refine wpAnyH_ready (rs := [5]) (by kernel_rfl) (by simp) (AllReadyH.cons rfl (fun K hK => ?_) AllReadyH.nil)
          go_simp
          refine (K6.out _).mono ?_
          rintro e m4 ⟨rfl, b4⟩
          have z3 := z3.below b4
          have N4 : Ext wd m4 := N3.trans b4
          refine hK.out _ _ N4 (fun hHeld => ?_)
          clear hK K
          try simp only [Act.put, List.getElem_toArray, List.getElem_cons_zero, List.getElem_cons_succ, List.setIfInBounds_toArray, List.set_cons_zero, List.set_cons_succ]
          refine wpAnyH_ready (rs := [7]) (by kernel_rfl) (by simp) (AllReadyH.cons rfl (fun K hK => ?_) AllReadyH.nil)
          refine step_wp (by rfl) ?_
          refine wp_store_blk _ _ _ rfl g3 ((z).map bval) rfl rfl _ _ z3 (by rw [List.length_map, HzL.out]; rfl) (num_size (HzL.out)) (bval_one _) ?_
          intro m5 hb5 hg5
          have N5 : Ext wd m5 := ext_grown N4 hg5 l3
          refine hK.out _ _ N5 (fun hHeld => ?_)
          clear hK K
          try simp only [Act.put, List.getElem_toArray, List.getElem_cons_zero, List.getElem_cons_succ, List.setIfInBounds_toArray, List.set_cons_zero, List.set_cons_succ]
          refine wpAnyH_done (by kernel_rfl) ?_ _
          go_wp2_with fail
          go_meet
          exact ⟨_, rfl, hb5, N5⟩
      · refine step_wp (by rfl) ?_
        refine wp_alloc_d (some 9) _ zero32 rfl rfl Try.zeroValue23 ?_
        obtain ⟨m2, hm2⟩ : ∃ wNew, wNew = World.alloc m1 (.cells (zero32).toArray 23) := ⟨_, rfl⟩
        rw [← hm2]
        have b2 : Ext m1 m2 := by rw [hm2]; exact Ext.alloc _ _
        obtain ⟨g2, hg2⟩ : ∃ gNew, gNew = (m1).heap.size := ⟨_, rfl⟩
        rw [← hg2]
        have z2 : Blk m2 g2 zero32 23 := by rw [hm2, hg2]; exact Blk.made _ _ _
        have l2 : (wd).heap.size ≤ g2 := by rw [hg2]; exact N1.size
        clear hm2 hg2
        have N2 : Ext wd m2 := N1.trans b2
        refine hK.out _ _ N2 (fun hHeld => ?_)
        clear hK K
        try simp only [Act.put, List.getElem_toArray, List.getElem_cons_zero, List.getElem_cons_succ, List.setIfInBounds_toArray, List.set_cons_zero, List.set_cons_succ]
        refine wpAnyH_ready (rs := [4]) (by kernel_rfl) (by simp) (AllReadyH.cons rfl (fun K hK => ?_) AllReadyH.nil)
        go_simp
        refine (K5.out _).mono ?_
        rintro e m3 ⟨rfl, b3⟩
        have z2 := z2.below b3
        have N3 : Ext wd m3 := N2.trans b3
        refine hK.out _ _ N3 (fun hHeld => ?_)
        clear hK K
        try simp only [Act.put, List.getElem_toArray, List.getElem_cons_zero, List.getElem_cons_succ, List.setIfInBounds_toArray, List.set_cons_zero, List.set_cons_succ]
        refine wpAnyH_ready (rs := [5]) (by kernel_rfl) (by simp) (AllReadyH.cons rfl (fun K hK => ?_) AllReadyH.nil)
        go_simp
        refine (K6.out _).mono ?_
        rintro e m4 ⟨rfl, b4⟩
        have z2 := z2.below b4
        have N4 : Ext wd m4 := N3.trans b4
        refine hK.out _ _ N4 (fun hHeld => ?_)
        clear hK K
        try simp only [Act.put, List.getElem_toArray, List.getElem_cons_zero, List.getElem_cons_succ, List.setIfInBounds_toArray, List.set_cons_zero, List.set_cons_succ]
        refine wpAnyH_ready (rs := [7]) (by kernel_rfl) (by simp) (AllReadyH.cons rfl (fun K hK => ?_) AllReadyH.nil)
        refine step_wp (by rfl) ?_
        refine wp_store_blk _ _ _ rfl g2 ((z).map bval) rfl rfl _ _ z2 (by rw [List.length_map, HzL.out]; rfl) (num_size (HzL.out)) (bval_one _) ?_
        intro m5 hb5 hg5
        have N5 : Ext wd m5 := ext_grown N4 hg5 l2
        refine hK.out _ _ N5 (fun hHeld => ?_)
        clear hK K
        try simp only [Act.put, List.getElem_toArray, List.getElem_cons_zero, List.getElem_cons_succ, List.setIfInBounds_toArray, List.set_cons_zero, List.set_cons_succ]
        refine wpAnyH_done (by kernel_rfl) ?_ _
        go_wp2_with fail
        go_meet
        exact ⟨_, rfl, hb5, N5⟩
    · refine step_wp (by rfl) ?_
      refine wp_alloc_d (some 9) _ zero32 rfl rfl Try.zeroValue23 ?_
      obtain ⟨m1, hm1⟩ : ∃ wNew, wNew = World.alloc wd.drew (.cells (zero32).toArray 23) := ⟨_, rfl⟩
      rw [← hm1]
      have b1 : Ext wd.drew m1 := by rw [hm1]; exact Ext.alloc _ _
      obtain ⟨g1, hg1⟩ : ∃ gNew, gNew = (wd.drew).heap.size := ⟨_, rfl⟩
      rw [← hg1]
      have z1 : Blk m1 g1 zero32 23 := by rw [hm1, hg1]; exact Blk.made _ _ _
      have l1 : (wd).heap.size ≤ g1 := by rw [hg1]; exact B0.size
      clear hm1 hg1
      have N1 : Ext wd m1 := B0.trans b1
      refine hK.out _ _ N1 (fun hHeld => ?_)
      clear hK K
      try simp only [Act.put, List.getElem_toArray, List.getElem_cons_zero, List.getElem_cons_succ, List.setIfInBounds_toArray, List.set_cons_zero, List.set_cons_succ]
      refine wpAnyH_ready (rs := [3]) (by kernel_rfl) (by simp) (AllReadyH.cons rfl (fun K hK => ?_) AllReadyH.nil)
      go_simp
      refine (K4.out _).mono ?_
      rintro e m2 ⟨rfl, b2⟩
      have z1 := z1.below b2
      have N2 : Ext wd m2 := N1.trans b2
      refine hK.out _ _ N2 (fun hHeld => ?_)
      clear hK K
      try simp only [Act.put, List.getElem_toArray, List.getElem_cons_zero, List.getElem_cons_succ, List.setIfInBounds_toArray, List.set_cons_zero, List.set_cons_succ]
      refine wpAnyH_ready (rs := [4]) (by kernel_rfl) (by simp) (AllReadyH.cons rfl (fun K hK => ?_) AllReadyH.nil)
      go_simp
      refine (K5.out _).mono ?_
      rintro e m3 ⟨rfl, b3⟩
      have z1 := z1.below b3
      have N3 : Ext wd m3 := N2.trans b3
      refine hK.out _ _ N3 (fun hHeld => ?_)
      clear hK K
      try simp only [Act.put, List.getElem_toArray, List.getElem_cons_zero, List.getElem_cons_succ, List.setIfInBounds_toArray, List.set_cons_zero, List.set_cons_succ]
      refine wpAnyH_ready (rs := [5]) (by kernel_rfl) (by simp) (AllReadyH.cons rfl (fun K hK => ?_) AllReadyH.nil)
      go_simp
      refine (K6.out _).mono ?_
      rintro e m4 ⟨rfl, b4⟩
      have z1 := z1.below b4
      have N4 : Ext wd m4 := N3.trans b4
      refine hK.out _ _ N4 (fun hHeld => ?_)
      clear hK K
      try simp only [Act.put, List.getElem_toArray, List.getElem_cons_zero, List.getElem_cons_succ, List.setIfInBounds_toArray, List.set_cons_zero, List.set_cons_succ]
      refine wpAnyH_ready (rs := [7]) (by kernel_rfl) (by simp) (AllReadyH.cons rfl (fun K hK => ?_) AllReadyH.nil)
      refine step_wp (by rfl) ?_
      refine wp_store_blk _ _ _ rfl g1 ((z).map bval) rfl rfl _ _ z1 (by rw [List.length_map, HzL.out]; rfl) (num_size (HzL.out)) (bval_one _) ?_
      intro m5 hb5 hg5
      have N5 : Ext wd m5 := ext_grown N4 hg5 l1
      refine hK.out _ _ N5 (fun hHeld => ?_)
      clear hK K
      try simp only [Act.put, List.getElem_toArray, List.getElem_cons_zero, List.getElem_cons_succ, List.setIfInBounds_toArray, List.set_cons_zero, List.set_cons_succ]
      refine wpAnyH_done (by kernel_rfl) ?_ _
      go_wp2_with fail
      go_meet
      exact ⟨_, rfl, hb5, N5⟩
  case rest =>
  obtain ⟨G, rfl, hbk, hX⟩ := hcut
  have H1 := Lib.hid (ext_blk H1.out hX)
  have H2 := Lib.hid (ext_blk H2.out hX)
  have H3 := Lib.hid (ext_blk H3.out hX)
  have HD := Lib.hid (ext_blk HD.out hX)
  have HE := Lib.hid (HE.out.trans hX)
  have HG := Lib.hid hbk
  clear hbk hX
  generalize wc = we at *
  have HIZ := Lib.hid (num_size HzL.out)
  go_wp2_with (first | (refine wpList_eql (by rfl) _ _ _ _ _ _ 32 _ z z true rfl (Or.inl ⟨rfl, decide_eq_true rfl⟩) Try.underlying23 Try.underlying5 num_info num_cells num_guard rfl rfl HzL.out HzL.out ?_) | (refine wpList_load_w (by rfl) _ _ rfl D rfl _ _ _ _ HD.out Try.underlying23 HIZ.out ?_) | (refine wpList_load_w (by rfl) _ _ rfl G rfl _ _ _ _ HG.out Try.underlying23 HIZ.out ?_))
  go_ret
  exact ⟨rfl, HE.out⟩

end Go.Proofs.Ytdjdalaghfknoaa
