/- A law whose every call returns true and leaves all that was there as it was holds as a row: one theorem for every law, whatever its parameters' types. No condition of its own. -/
import Derived.Test.YtcadfccijeodbaaDoorRows
import Derived.Test.YtcadfccijeodbaaDoorRowKit
import Derived.WalkKit
import Derived.ProofKit
import Derived.Deep.Slices
import Derived.Laws.Cover2
import Derived.OpenShut
namespace Go.Proofs.YtcadfccijeodbaaDoor
open Go.ChangeShapes Go.WideShapes Go.ChangeAt Go.RowKit

theorem trodAll_len {H : Type} {enc : TypeId × Value → H} {P : Program} {w : World} {base : Nat} {sp : Nat → Bool} {held : Bool} :
    ∀ {ts : List TypeId} {vs : List Value} {ds : List (DataW H)} {ps : List MemPlace}, DataW.TrodAll enc P w base sp held ts vs ds ps → ds.length = ts.length
  | [], _, _, _, h => by
    obtain ⟨rfl, rfl, rfl⟩ := trodAll_nil h
    rfl
  | _ :: _, _, _, _, h => by
    obtain ⟨v, vs1, d, ds1, a, b, rfl, rfl, rfl, g1, g2⟩ := trodAll_cons h
    simp [trodAll_len g2]

theorem trodAll_stays {H : Type} {enc : TypeId × Value → H} {P : Program} (hl : laidOutB P = true) {W W' : World} {base : Nat} {sp' : Nat → Bool} :
    ∀ {ts : List TypeId} {vs : List Value} {ds : List (DataW H)} {ps : List MemPlace}, (ts.all fun t => P.readableRec t && decide (t < P.types.size)) = true →
    DataW.TrodAll enc P W base (fun _ => true) true ts vs ds ps → (∀ p ∈ ps, W.sameAt W' p) → (∀ p ∈ ps, sp' p.block = true) → DataW.TrodAll enc P W' base sp' true ts vs ds ps
  | [], _, _, _, _, h, _, _ => by
    obtain ⟨rfl, rfl, rfl⟩ := trodAll_nil h
    exact trodAll_mk0
  | t :: ts, _, _, _, hr, h, h1, h2 => by
    obtain ⟨v, vs1, d, ds1, a, b, rfl, rfl, rfl, g1, g2⟩ := trodAll_cons h
    rw [List.all_cons, Bool.and_eq_true, Bool.and_eq_true] at hr
    obtain ⟨⟨r1, r2⟩, r3⟩ := hr
    exact ⟨a, b, WideElems.Trod_stays hl r1 (of_decide_eq_true r2) g1 (fun p hp => h1 p (List.mem_append_left _ hp)) (fun p hp => h2 p (List.mem_append_left _ hp)),
      trodAll_stays hl r3 g2 (fun p hp => h1 p (List.mem_append_right _ hp)) (fun p hp => h2 p (List.mem_append_right _ hp)), rfl⟩

/-- What a law's walk owes: of whatever arguments that can be read, true, and nothing that was there has turned. -/
def LawWalk {H : Type} (enc : TypeId × Value → H) (P : Program) (f : FuncId) (ts : List TypeId) : Prop :=
  ∀ (W : World) (base : Nat) (args : Array Value) (ds : List (DataW H)) (ps : List MemPlace),
    (∀ (j : Nat) (t : TypeId) (v : Value), ts[j]? = some t → args[j]? = some v → Value.okWide P W .any base t v) →
    DataW.TrodAll enc P W 0 (fun _ => true) true ts args.toList ds ps → (∀ x ∈ ps, x.block < W.heap.size) → W.noneFrozen ps →
    Calls P f args W fun e w' => e = .returned (.bool true) ∧ Below W.heap.size W w'

theorem law_lift {H : Type} {enc : TypeId × Value → H} {C : Checked} {os : Os} {f : FuncId} {fn : Func} {s : ChangeSpec} {tb : TypeId}
    (own : ownKnob C.prog.godebug = none) (laid : laidOutB C.prog = true) (started : os.Started)
    (hinit : C.prog.inits.idxOf? f = none) (hf : C.prog.funcs[f]? = some fn) (hvars : s.vars = [])
    (hread : (fn.params.toList.all fun t => C.prog.readableRec t && decide (t < C.prog.types.size)) = true)
    (hres : fn.resultTypes = #[tb]) (hb : C.prog.underlying tb = some .bool)
    (hs : ∀ ds : List (DataW H), ds.length = fn.params.toList.length → (s.fn H ds).results = [.lit (.bool true)] ∧ (s.fn H ds).args = ds ∧ (s.fn H ds).vars = [])
    (hwit : ∃ (w : World) (tape : Tape) (i : Input), w.os = os ∧ World.Shaped C.prog (w.forCall tape i) ∧ i.vars = [] ∧ Input.okWide C.prog (w.forCall tape i) Reach.any w.heap.size f i ∧
      ChangeSpec.pre6 enc C.prog fn s [] false (w.forCall tape i).memory i.args ∧ ({} : Assume).holds C.prog (lone (Frame.enter C.prog f i.args CallKind.normal) [] (w.forCall tape i)))
    (walk : LawWalk enc C.prog f fn.params.toList) :
    ReturnsInHanded {} C os f .any (s.pre6 enc C.prog fn [] false) (s.post enc C.prog fn false true false false) := by
  refine returnsInHanded_of_change own started hinit hf hwit ?_
  intro W base args ds gs before hval hW _ _
  have hW' := hW
  have hlt := hW.lt
  obtain ⟨p, q, hA, hV, rfl, hfz, hnd⟩ := hW
  rw [hvars] at hV
  obtain ⟨rfl, rfl⟩ := trodVars_none hV
  rw [List.append_nil] at hlt hfz
  have hlen := trodAll_len hA
  obtain ⟨e1, e2, e3⟩ := hs ds hlen
  refine (walk W base args ds p (fun j t v hj hv => hval j t v (by rw [← Array.getElem?_toList]; exact hj) hv) hA hlt hfz).mono ?_
  rintro e w' ⟨rfl, hbel⟩
  refine ⟨_, rfl, ds, [], p ++ [], [], p, [], hW', ?_, ?_, ?_, ?_, ?_⟩
  · rw [List.append_nil, e1, hres]
    exact trodAll_mk1 (shut_bool hb _)
  · rw [List.append_nil, e2]
    exact trodAll_stays laid hread hA (fun x hx => hbel.same (hlt x hx)) (fun x hx => by simpa using hlt x hx)
  · rw [hvars, List.append_nil, e3]
    rfl
  · exact hbel.frame _
  · intro h
    cases h

section
variable {H : Type} {enc : TypeId × Value → H} {P : Program} {W : World} {sp : Nat → Bool}

/-- A slice of one-cell elements, opened out of its reading: the list of its elements; each reads by itself. -/
theorem row1_of_trod {t e : TypeId} {fuel : Nat} {v : Value} {y : DataW H × List MemPlace} (ht : P.underlying t = some (.slice e)) (hc : P.cellsOf e = 1)
    (hf : DataW.trod enc P W 0 (fun _ => true) true fuel t [v] = some y) :
    ∃ vs : List Value, Row1 W v vs ∧ ∀ x ∈ vs, ∃ n y, DataW.trod enc P W 0 (fun _ => true) true n e [x] = some y := by
  rcases Deep.open_slice1 ht hc hf with ⟨hcs, _⟩ | ⟨a1, len1, cap1, m, n, V, D, Pl, hcs, hb, hl, hm, hmm, _, hx⟩
  · obtain rfl : v = .slice none 0 0 := by simpa using hcs
    exact ⟨[], Row1.nil W, fun x hx => by cases hx⟩
  · obtain rfl : v = .slice (some a1) len1 cap1 := by simpa using hcs
    simp only [if_true] at hmm
    refine ⟨(List.range len1).map V, ⟨some a1, cap1, by simp, by simpa using hl, hm, (fun e => by cases e), fun hne => ?_⟩, ?_⟩
    · have h0 : 0 < len1 := by
        rcases Nat.eq_zero_or_pos len1 with h | h
        · subst h; exact absurd rfl hne
        · exact h
      obtain ⟨b, off, spot⟩ := a1
      have hspot : spot = none := by simpa [Addr.add] using World.cell?_spot ((hx 0 (by omega)).1)
      subst hspot
      refine ⟨b, off, rfl, ?_, fun i hi => ?_⟩
      · have := (hx 0 (by omega)).1
        exact World.block_lt_of_cell? W _ this
      · have hi' : i < len1 := by simpa using hi
        rw [← add_plain, (hx i (by omega)).1]
        simp [hi']
    · intro x hxm
      obtain ⟨i, hi, rfl⟩ := List.mem_map.1 hxm
      have hi' : i < len1 := by simpa using hi
      exact ⟨n, _, (hx i (by omega)).2⟩

/-- A slice of one-cell elements, opened: the list of its elements; each reads by itself. -/
theorem open_row1 {base0 : Nat} {r : Reach} {t e : TypeId} {v : Value} {d : DataW H} {ps : List MemPlace} (ht : P.underlying t = some (.slice e)) (hc : P.cellsOf e = 1)
    (hval : Value.okWide P W r base0 t v) (hd : DataW.Trod enc P W 0 (fun _ => true) true t v d ps) :
    ∃ vs : List Value, Row1 W v vs ∧ ∀ x ∈ vs, ∃ n y, DataW.trod enc P W 0 (fun _ => true) true n e [x] = some y := by
  obtain ⟨a, len, cap, rfl⟩ := okWide_slice ht hval
  obtain ⟨fuel, hf⟩ := hd
  exact row1_of_trod (y := (d, ps)) ht hc (by simpa [Value.cells] using hf)

theorem cell_float {e : TypeId} {k : FloatKind} (he : P.underlying e = some (.float k)) {n : Nat} {x : Value} {y : DataW H × List MemPlace}
    (h : DataW.trod enc P W 0 sp true n e [x] = some y) : ∃ b, x = .float k b ∧ (Lit.float k b).wf = true := by
  cases n with
  | zero => simp [DataW.trod] at h
  | succ n =>
    unfold DataW.trod at h
    rw [he] at h
    cases x <;> simp at h
    rename_i k' b
    obtain ⟨⟨rfl, h2⟩, _⟩ := h
    exact ⟨b, rfl, h2⟩

theorem cell_int {e : TypeId} {k : IntKind} (he : P.underlying e = some (.int k)) {n : Nat} {x : Value} {y : DataW H × List MemPlace}
    (h : DataW.trod enc P W 0 sp true n e [x] = some y) : ∃ b, x = .int k b ∧ (Lit.int k b).wf = true := by
  cases n with
  | zero => simp [DataW.trod] at h
  | succ n =>
    unfold DataW.trod at h
    rw [he] at h
    cases x <;> simp at h
    rename_i k' b
    obtain ⟨⟨rfl, h2⟩, _⟩ := h
    exact ⟨b, rfl, h2⟩

/-- What each element is, of all of them. -/
theorem list_of_all {α : Type} {f : α → Value} {p : α → Prop} : ∀ {vs : List Value}, (∀ x ∈ vs, ∃ a, x = f a ∧ p a) → ∃ l : List α, vs = l.map f ∧ ∀ a ∈ l, p a
  | [], _ => ⟨[], rfl, fun a h => by cases h⟩
  | v :: vs, h => by
    obtain ⟨a, rfl, ha⟩ := h v (List.mem_cons_self ..)
    obtain ⟨l, rfl, hl⟩ := list_of_all (fun x hx => h x (List.mem_cons_of_mem _ hx))
    exact ⟨a :: l, rfl, fun b hb => by
      rcases List.mem_cons.1 hb with rfl | hb
      · exact ha
      · exact hl b hb⟩

theorem open_floats {base0 : Nat} {r : Reach} {t e : TypeId} {v : Value} {d : DataW H} {ps : List MemPlace} {k : FloatKind} (ht : P.underlying t = some (.slice e)) (he : P.underlying e = some (.float k)) (hc : P.cellsOf e = 1)
    (hval : Value.okWide P W r base0 t v) (hd : DataW.Trod enc P W 0 (fun _ => true) true t v d ps) : ∃ zs : List Nat, Row1 W v (zs.map (.float k)) := by
  obtain ⟨vs, h1, h2⟩ := open_row1 ht hc hval hd
  obtain ⟨l, rfl, _⟩ := list_of_all (f := Value.float k) (p := fun _ => True) (fun x hx => by
    obtain ⟨n, y, h⟩ := h2 x hx
    obtain ⟨b, rfl, _⟩ := cell_float he h
    exact ⟨b, rfl, trivial⟩)
  exact ⟨l, h1⟩

theorem open_numbers {base0 : Nat} {r : Reach} {t e : TypeId} {v : Value} {d : DataW H} {ps : List MemPlace} {k : IntKind} (ht : P.underlying t = some (.slice e)) (he : P.underlying e = some (.int k)) (hc : P.cellsOf e = 1)
    (hval : Value.okWide P W r base0 t v) (hd : DataW.Trod enc P W 0 (fun _ => true) true t v d ps) : ∃ zs : List Int, Row1 W v (zs.map (.int k)) ∧ ∀ n ∈ zs, (Lit.int k n).wf = true := by
  obtain ⟨vs, h1, h2⟩ := open_row1 ht hc hval hd
  obtain ⟨l, rfl, hl⟩ := list_of_all (f := Value.int k) (p := fun n => (Lit.int k n).wf = true) (fun x hx => by
    obtain ⟨n, y, h⟩ := h2 x hx
    exact cell_int he h)
  exact ⟨l, h1, hl⟩

theorem bytes_of_trod {t e : TypeId} {fuel : Nat} {v : Value} {y : DataW H × List MemPlace} (ht : P.underlying t = some (.slice e)) (he : P.underlying e = some (.int .u8)) (hc : P.cellsOf e = 1)
    (hf : DataW.trod enc P W 0 (fun _ => true) true fuel t [v] = some y) : ∃ l : List UInt8, Row1 W v (l.map bval) := by
  obtain ⟨vs, h1, h2⟩ := row1_of_trod ht hc hf
  obtain ⟨l, rfl, _⟩ := list_of_all (f := bval) (p := fun _ => True) (fun x hx => by
    obtain ⟨n, y, h⟩ := h2 x hx
    obtain ⟨b, rfl, hw⟩ := cell_int he h
    have hb : 0 ≤ b ∧ b ≤ 255 := by simpa [Lit.wf, IntKind.min, IntKind.max, IntKind.signed, IntKind.bits] using hw
    refine ⟨UInt8.ofNat b.toNat, ?_, trivial⟩
    unfold bval
    congr 1
    rw [UInt8.toNat_ofNat']
    omega)
  exact ⟨l, h1⟩

/-- A slice of bytes, opened. -/
theorem open_bytes {base0 : Nat} {r : Reach} {t e : TypeId} {v : Value} {d : DataW H} {ps : List MemPlace} (ht : P.underlying t = some (.slice e)) (he : P.underlying e = some (.int .u8)) (hc : P.cellsOf e = 1)
    (hval : Value.okWide P W r base0 t v) (hd : DataW.Trod enc P W 0 (fun _ => true) true t v d ps) : ∃ l : List UInt8, Row1 W v (l.map bval) := by
  obtain ⟨a, len, cap, rfl⟩ := okWide_slice ht hval
  obtain ⟨fuel, hf⟩ := hd
  exact bytes_of_trod (y := (d, ps)) ht he hc (by simpa [Value.cells] using hf)

theorem lists_of_all {w : World} : ∀ {vs : List Value}, (∀ x ∈ vs, ∃ l : List UInt8, Row1 w x (l.map bval)) → ∃ ls : List (List UInt8), vs.length = ls.length ∧ ∀ (i : Nat) (x : Value) (l : List UInt8), vs[i]? = some x → ls[i]? = some l → Row1 w x (l.map bval)
  | [], _ => ⟨[], rfl, fun i x l hx => by simp at hx⟩
  | v :: vs, h => by
    obtain ⟨l, hl⟩ := h v (List.mem_cons_self ..)
    obtain ⟨ls, h1, h2⟩ := lists_of_all (fun x hx => h x (List.mem_cons_of_mem _ hx))
    refine ⟨l :: ls, by simp [h1], fun i x k hx hk => ?_⟩
    cases i with
    | zero =>
      simp at hx hk
      subst hx; subst hk
      exact hl
    | succ i => exact h2 i x k (by simpa using hx) (by simpa using hk)

/-- A slice of slices of bytes, opened. -/
theorem open_bytes2 {base0 : Nat} {r : Reach} {t q e : TypeId} {v : Value} {d : DataW H} {ps : List MemPlace} (ht : P.underlying t = some (.slice q)) (hq : P.underlying q = some (.slice e)) (he : P.underlying e = some (.int .u8)) (hcq : P.cellsOf q = 1) (hc : P.cellsOf e = 1)
    (hval : Value.okWide P W r base0 t v) (hd : DataW.Trod enc P W 0 (fun _ => true) true t v d ps) : ∃ ls : List (List UInt8), RowB W v ls := by
  obtain ⟨vs, h1, h2⟩ := open_row1 ht hcq hval hd
  obtain ⟨ls, h3, h4⟩ := lists_of_all (w := W) (vs := vs) (fun x hx => by
    obtain ⟨n, y, h⟩ := h2 x hx
    exact bytes_of_trod hq he hc h)
  exact ⟨ls, vs, h1, h3, h4⟩

/-- An array of one-cell elements, opened. -/
theorem open_array {base0 : Nat} {r : Reach} {t e : TypeId} {len : Nat} {v : Value} {d : DataW H} {ps : List MemPlace} (ht : P.underlying t = some (.array len e)) (hc : P.cellsOf e = 1) (hct : P.cellsOf t = len)
    (hval : Value.okWide P W r base0 t v) (hd : DataW.Trod enc P W 0 (fun _ => true) true t v d ps) :
    ∃ vs : List Value, v = .agg vs.toArray ∧ vs.length = len ∧ ∀ x ∈ vs, ∃ n y, DataW.trod enc P W 0 (fun _ => true) true n e [x] = some y := by
  simp only [Value.okWide, ht] at hval
  obtain ⟨cs, rfl, hsz, _⟩ := hval
  rw [hct] at hsz
  obtain ⟨fuel, hf⟩ := hd
  obtain ⟨xs, m, _, _, hl, hxl, hx⟩ := DataW.trod_array ht hf
  obtain ⟨l⟩ := cs
  refine ⟨l, rfl, by simpa using hsz, fun x hxm => ?_⟩
  obtain ⟨i, hi, rfl⟩ := List.getElem_of_mem hxm
  have hlen : l.length = len := by simpa using hsz
  have hi' : i < len := by omega
  have := hx i hi'
  rw [hc, Nat.mul_one] at this
  refine ⟨m, xs[i]'(by omega), ?_⟩
  rw [List.getElem?_eq_getElem (by omega)] at this
  rw [← this]
  congr 1
  show [l[i]] = (l.drop i).take 1
  rw [List.drop_eq_getElem_cons hi]
  rfl

theorem open_array_ints {base0 : Nat} {r : Reach} {t e : TypeId} {len : Nat} {k : IntKind} {v : Value} {d : DataW H} {ps : List MemPlace} (ht : P.underlying t = some (.array len e)) (he : P.underlying e = some (.int k)) (hc : P.cellsOf e = 1) (hct : P.cellsOf t = len)
    (hval : Value.okWide P W r base0 t v) (hd : DataW.Trod enc P W 0 (fun _ => true) true t v d ps) :
    ∃ zs : List Int, v = .agg (zs.map (Value.int k)).toArray ∧ zs.length = len ∧ ∀ n ∈ zs, (Lit.int k n).wf = true := by
  obtain ⟨vs, rfl, hl, h2⟩ := open_array ht hc hct hval hd
  obtain ⟨l, rfl, hw⟩ := list_of_all (f := Value.int k) (p := fun n => (Lit.int k n).wf = true) (fun x hx => by
    obtain ⟨n, y, h⟩ := h2 x hx
    exact cell_int he h)
  exact ⟨l, rfl, by simpa using hl, hw⟩
end

theorem law_own : ownKnob Tryd.prog.godebug = none := by kernel_rfl
theorem law_laid : laidOutB Tryd.prog = true := by kernel_rfl

end Go.Proofs.YtcadfccijeodbaaDoor
