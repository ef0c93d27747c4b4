/- Texts that belong together, one behind the other; each says in its own first remark what it shows. -/
import Derived.Test.YtdjdalaghfknoaaRows
import Derived.Test.YtdjdalaghfknoaaRowKit
import Derived.WalkKit
import Derived.ProofKit
import Derived.Deep.Slices
import Derived.Laws.Cover2
import Derived.OpenShut
import Derived.Test.YtdjdalaghfknoaaByteKit
import Derived.Test.YtdjdalaghfknoaaAllC2
import Derived.Test.YtdjdalaghfknoaaRefNum
import Derived.Test.YtdjdalaghfknoaaRefPlus
import Derived.Test.YtdjdalaghfknoaaHeldMore
import Derived.Test.YtdjdalaghfknoaaU8Kit
import Derived.Deep.CutRange

/- A law whose every call returns true and leaves all that was there as it was holds as a row: one theorem for every law, whatever its parameters' types. No condition of its own. -/
namespace Go.Proofs.Ytdjdalaghfknoaa
open Go.ChangeShapes Go.WideShapes Go.ChangeAt Go.RowKit

theorem trodAll_len {H : Type} {enc : TypeId × Value → H} {P : Program} {w : World} {base : Nat} {sp : Nat → Bool} {held : Bool} :
    ∀ {ts : List TypeId} {vs : List Value} {ds : List (DataW H)} {ps : List MemPlace}, DataW.TrodAll enc P w base sp held ts vs ds ps → ds.length = ts.length
  | [], _, _, _, h => by
    obtain ⟨rfl, rfl, rfl⟩ := trodAll_nil h
    rfl
  | _ :: _, _, _, _, h => by
    obtain ⟨v, vs1, d, ds1, a, b, rfl, rfl, rfl, g1, g2⟩ := trodAll_cons h
    simp [trodAll_len g2]

theorem trodAll_stays {H : Type} {enc : TypeId × Value → H} {P : Program} (hl : laidOutB P = true) {W W' : World} {base : Nat} {sp' : Nat → Bool} :
    ∀ {ts : List TypeId} {vs : List Value} {ds : List (DataW H)} {ps : List MemPlace}, (ts.all fun t => P.readableRec t && decide (t < P.types.size)) = true →
    DataW.TrodAll enc P W base (fun _ => true) true ts vs ds ps → (∀ p ∈ ps, W.sameAt W' p) → (∀ p ∈ ps, sp' p.block = true) → DataW.TrodAll enc P W' base sp' true ts vs ds ps
  | [], _, _, _, _, h, _, _ => by
    obtain ⟨rfl, rfl, rfl⟩ := trodAll_nil h
    exact trodAll_mk0
  | t :: ts, _, _, _, hr, h, h1, h2 => by
    obtain ⟨v, vs1, d, ds1, a, b, rfl, rfl, rfl, g1, g2⟩ := trodAll_cons h
    rw [List.all_cons, Bool.and_eq_true, Bool.and_eq_true] at hr
    obtain ⟨⟨r1, r2⟩, r3⟩ := hr
    exact ⟨a, b, WideElems.Trod_stays hl r1 (of_decide_eq_true r2) g1 (fun p hp => h1 p (List.mem_append_left _ hp)) (fun p hp => h2 p (List.mem_append_left _ hp)),
      trodAll_stays hl r3 g2 (fun p hp => h1 p (List.mem_append_right _ hp)) (fun p hp => h2 p (List.mem_append_right _ hp)), rfl⟩

/-- What a law's walk owes: of whatever arguments that can be read, true, and nothing that was there has turned. -/
def LawWalk {H : Type} (enc : TypeId × Value → H) (P : Program) (f : FuncId) (ts : List TypeId) : Prop :=
  ∀ (W : World) (base : Nat) (args : Array Value) (ds : List (DataW H)) (ps : List MemPlace),
    (∀ (j : Nat) (t : TypeId) (v : Value), ts[j]? = some t → args[j]? = some v → Value.okWide P W .any base t v) →
    DataW.TrodAll enc P W 0 (fun _ => true) true ts args.toList ds ps → (∀ x ∈ ps, x.block < W.heap.size) → W.noneFrozen ps →
    Calls P f args W fun e w' => e = .returned (.bool true) ∧ Below W.heap.size W w'

theorem law_lift {H : Type} {enc : TypeId × Value → H} {C : Checked} {os : Os} {f : FuncId} {fn : Func} {s : ChangeSpec} {tb : TypeId}
    (own : ownKnob C.prog.godebug = none) (laid : laidOutB C.prog = true) (started : os.Started)
    (hinit : C.prog.inits.idxOf? f = none) (hf : C.prog.funcs[f]? = some fn) (hvars : s.vars = [])
    (hread : (fn.params.toList.all fun t => C.prog.readableRec t && decide (t < C.prog.types.size)) = true)
    (hres : fn.resultTypes = #[tb]) (hb : C.prog.underlying tb = some .bool)
    (hs : ∀ ds : List (DataW H), ds.length = fn.params.toList.length → (s.fn H ds).results = [.lit (.bool true)] ∧ (s.fn H ds).args = ds ∧ (s.fn H ds).vars = [])
    (hwit : ∃ (w : World) (tape : Tape) (i : Input), w.os = os ∧ World.Shaped C.prog (w.forCall tape i) ∧ i.vars = [] ∧ Input.okWide C.prog (w.forCall tape i) Reach.any w.heap.size f i ∧
      ChangeSpec.pre6 enc C.prog fn s [] false (w.forCall tape i).memory i.args ∧ ({} : Assume).holds C.prog (lone (Frame.enter C.prog f i.args CallKind.normal) [] (w.forCall tape i)))
    (walk : LawWalk enc C.prog f fn.params.toList) :
    ReturnsInHanded {} C os f .any (s.pre6 enc C.prog fn [] false) (s.post enc C.prog fn false true false false) := by
  refine returnsInHanded_of_change own started hinit hf hwit ?_
  intro W base args ds gs before hval hW _ _
  have hW' := hW
  have hlt := hW.lt
  obtain ⟨p, q, hA, hV, rfl, hfz, hnd⟩ := hW
  rw [hvars] at hV
  obtain ⟨rfl, rfl⟩ := trodVars_none hV
  rw [List.append_nil] at hlt hfz
  have hlen := trodAll_len hA
  obtain ⟨e1, e2, e3⟩ := hs ds hlen
  refine (walk W base args ds p (fun j t v hj hv => hval j t v (by rw [← Array.getElem?_toList]; exact hj) hv) hA hlt hfz).mono ?_
  rintro e w' ⟨rfl, hbel⟩
  refine ⟨_, rfl, ds, [], p ++ [], [], p, [], hW', ?_, ?_, ?_, ?_, ?_⟩
  · rw [List.append_nil, e1, hres]
    exact trodAll_mk1 (shut_bool hb _)
  · rw [List.append_nil, e2]
    exact trodAll_stays laid hread hA (fun x hx => hbel.same (hlt x hx)) (fun x hx => by simpa using hlt x hx)
  · rw [hvars, List.append_nil, e3]
    rfl
  · exact hbel.frame _
  · intro h
    cases h

section
variable {H : Type} {enc : TypeId × Value → H} {P : Program} {W : World} {sp : Nat → Bool}

/-- A slice of one-cell elements, opened out of its reading: the list of its elements; each reads by itself. -/
theorem row1_of_trod {t e : TypeId} {fuel : Nat} {v : Value} {y : DataW H × List MemPlace} (ht : P.underlying t = some (.slice e)) (hc : P.cellsOf e = 1)
    (hf : DataW.trod enc P W 0 (fun _ => true) true fuel t [v] = some y) :
    ∃ vs : List Value, Row1 W v vs ∧ ∀ x ∈ vs, ∃ n y, DataW.trod enc P W 0 (fun _ => true) true n e [x] = some y := by
  rcases Deep.open_slice1 ht hc hf with ⟨hcs, _⟩ | ⟨a1, len1, cap1, m, n, V, D, Pl, hcs, hb, hl, hm, hmm, _, hx⟩
  · obtain rfl : v = .slice none 0 0 := by simpa using hcs
    exact ⟨[], Row1.nil W, fun x hx => by cases hx⟩
  · obtain rfl : v = .slice (some a1) len1 cap1 := by simpa using hcs
    simp only [if_true] at hmm
    refine ⟨(List.range len1).map V, ⟨some a1, cap1, by simp, by simpa using hl, hm, (fun e => by cases e), fun hne => ?_⟩, ?_⟩
    · have h0 : 0 < len1 := by
        rcases Nat.eq_zero_or_pos len1 with h | h
        · subst h; exact absurd rfl hne
        · exact h
      obtain ⟨b, off, spot⟩ := a1
      have hspot : spot = none := by simpa [Addr.add] using World.cell?_spot ((hx 0 (by omega)).1)
      subst hspot
      refine ⟨b, off, rfl, ?_, fun i hi => ?_⟩
      · have := (hx 0 (by omega)).1
        exact World.block_lt_of_cell? W _ this
      · have hi' : i < len1 := by simpa using hi
        rw [← add_plain, (hx i (by omega)).1]
        simp [hi']
    · intro x hxm
      obtain ⟨i, hi, rfl⟩ := List.mem_map.1 hxm
      have hi' : i < len1 := by simpa using hi
      exact ⟨n, _, (hx i (by omega)).2⟩

/-- A slice of one-cell elements, opened: the list of its elements; each reads by itself. -/
theorem open_row1 {base0 : Nat} {r : Reach} {t e : TypeId} {v : Value} {d : DataW H} {ps : List MemPlace} (ht : P.underlying t = some (.slice e)) (hc : P.cellsOf e = 1)
    (hval : Value.okWide P W r base0 t v) (hd : DataW.Trod enc P W 0 (fun _ => true) true t v d ps) :
    ∃ vs : List Value, Row1 W v vs ∧ ∀ x ∈ vs, ∃ n y, DataW.trod enc P W 0 (fun _ => true) true n e [x] = some y := by
  obtain ⟨a, len, cap, rfl⟩ := okWide_slice ht hval
  obtain ⟨fuel, hf⟩ := hd
  exact row1_of_trod (y := (d, ps)) ht hc (by simpa [Value.cells] using hf)

theorem cell_float {e : TypeId} {k : FloatKind} (he : P.underlying e = some (.float k)) {n : Nat} {x : Value} {y : DataW H × List MemPlace}
    (h : DataW.trod enc P W 0 sp true n e [x] = some y) : ∃ b, x = .float k b ∧ (Lit.float k b).wf = true := by
  cases n with
  | zero => simp [DataW.trod] at h
  | succ n =>
    unfold DataW.trod at h
    rw [he] at h
    cases x <;> simp at h
    rename_i k' b
    obtain ⟨⟨rfl, h2⟩, _⟩ := h
    exact ⟨b, rfl, h2⟩

theorem cell_int {e : TypeId} {k : IntKind} (he : P.underlying e = some (.int k)) {n : Nat} {x : Value} {y : DataW H × List MemPlace}
    (h : DataW.trod enc P W 0 sp true n e [x] = some y) : ∃ b, x = .int k b ∧ (Lit.int k b).wf = true := by
  cases n with
  | zero => simp [DataW.trod] at h
  | succ n =>
    unfold DataW.trod at h
    rw [he] at h
    cases x <;> simp at h
    rename_i k' b
    obtain ⟨⟨rfl, h2⟩, _⟩ := h
    exact ⟨b, rfl, h2⟩

/-- What each element is, of all of them. -/
theorem list_of_all {α : Type} {f : α → Value} {p : α → Prop} : ∀ {vs : List Value}, (∀ x ∈ vs, ∃ a, x = f a ∧ p a) → ∃ l : List α, vs = l.map f ∧ ∀ a ∈ l, p a
  | [], _ => ⟨[], rfl, fun a h => by cases h⟩
  | v :: vs, h => by
    obtain ⟨a, rfl, ha⟩ := h v (List.mem_cons_self ..)
    obtain ⟨l, rfl, hl⟩ := list_of_all (fun x hx => h x (List.mem_cons_of_mem _ hx))
    exact ⟨a :: l, rfl, fun b hb => by
      rcases List.mem_cons.1 hb with rfl | hb
      · exact ha
      · exact hl b hb⟩

theorem open_floats {base0 : Nat} {r : Reach} {t e : TypeId} {v : Value} {d : DataW H} {ps : List MemPlace} {k : FloatKind} (ht : P.underlying t = some (.slice e)) (he : P.underlying e = some (.float k)) (hc : P.cellsOf e = 1)
    (hval : Value.okWide P W r base0 t v) (hd : DataW.Trod enc P W 0 (fun _ => true) true t v d ps) : ∃ zs : List Nat, Row1 W v (zs.map (.float k)) := by
  obtain ⟨vs, h1, h2⟩ := open_row1 ht hc hval hd
  obtain ⟨l, rfl, _⟩ := list_of_all (f := Value.float k) (p := fun _ => True) (fun x hx => by
    obtain ⟨n, y, h⟩ := h2 x hx
    obtain ⟨b, rfl, _⟩ := cell_float he h
    exact ⟨b, rfl, trivial⟩)
  exact ⟨l, h1⟩

theorem open_numbers {base0 : Nat} {r : Reach} {t e : TypeId} {v : Value} {d : DataW H} {ps : List MemPlace} {k : IntKind} (ht : P.underlying t = some (.slice e)) (he : P.underlying e = some (.int k)) (hc : P.cellsOf e = 1)
    (hval : Value.okWide P W r base0 t v) (hd : DataW.Trod enc P W 0 (fun _ => true) true t v d ps) : ∃ zs : List Int, Row1 W v (zs.map (.int k)) ∧ ∀ n ∈ zs, (Lit.int k n).wf = true := by
  obtain ⟨vs, h1, h2⟩ := open_row1 ht hc hval hd
  obtain ⟨l, rfl, hl⟩ := list_of_all (f := Value.int k) (p := fun n => (Lit.int k n).wf = true) (fun x hx => by
    obtain ⟨n, y, h⟩ := h2 x hx
    exact cell_int he h)
  exact ⟨l, h1, hl⟩

theorem bytes_of_trod {t e : TypeId} {fuel : Nat} {v : Value} {y : DataW H × List MemPlace} (ht : P.underlying t = some (.slice e)) (he : P.underlying e = some (.int .u8)) (hc : P.cellsOf e = 1)
    (hf : DataW.trod enc P W 0 (fun _ => true) true fuel t [v] = some y) : ∃ l : List UInt8, Row1 W v (l.map bval) := by
  obtain ⟨vs, h1, h2⟩ := row1_of_trod ht hc hf
  obtain ⟨l, rfl, _⟩ := list_of_all (f := bval) (p := fun _ => True) (fun x hx => by
    obtain ⟨n, y, h⟩ := h2 x hx
    obtain ⟨b, rfl, hw⟩ := cell_int he h
    have hb : 0 ≤ b ∧ b ≤ 255 := by simpa [Lit.wf, IntKind.min, IntKind.max, IntKind.signed, IntKind.bits] using hw
    refine ⟨UInt8.ofNat b.toNat, ?_, trivial⟩
    unfold bval
    congr 1
    rw [UInt8.toNat_ofNat']
    omega)
  exact ⟨l, h1⟩

/-- A slice of bytes, opened. -/
theorem open_bytes {base0 : Nat} {r : Reach} {t e : TypeId} {v : Value} {d : DataW H} {ps : List MemPlace} (ht : P.underlying t = some (.slice e)) (he : P.underlying e = some (.int .u8)) (hc : P.cellsOf e = 1)
    (hval : Value.okWide P W r base0 t v) (hd : DataW.Trod enc P W 0 (fun _ => true) true t v d ps) : ∃ l : List UInt8, Row1 W v (l.map bval) := by
  obtain ⟨a, len, cap, rfl⟩ := okWide_slice ht hval
  obtain ⟨fuel, hf⟩ := hd
  exact bytes_of_trod (y := (d, ps)) ht he hc (by simpa [Value.cells] using hf)

theorem lists_of_all {w : World} : ∀ {vs : List Value}, (∀ x ∈ vs, ∃ l : List UInt8, Row1 w x (l.map bval)) → ∃ ls : List (List UInt8), vs.length = ls.length ∧ ∀ (i : Nat) (x : Value) (l : List UInt8), vs[i]? = some x → ls[i]? = some l → Row1 w x (l.map bval)
  | [], _ => ⟨[], rfl, fun i x l hx => by simp at hx⟩
  | v :: vs, h => by
    obtain ⟨l, hl⟩ := h v (List.mem_cons_self ..)
    obtain ⟨ls, h1, h2⟩ := lists_of_all (fun x hx => h x (List.mem_cons_of_mem _ hx))
    refine ⟨l :: ls, by simp [h1], fun i x k hx hk => ?_⟩
    cases i with
    | zero =>
      simp at hx hk
      subst hx; subst hk
      exact hl
    | succ i => exact h2 i x k (by simpa using hx) (by simpa using hk)

/-- A slice of slices of bytes, opened. -/
theorem open_bytes2 {base0 : Nat} {r : Reach} {t q e : TypeId} {v : Value} {d : DataW H} {ps : List MemPlace} (ht : P.underlying t = some (.slice q)) (hq : P.underlying q = some (.slice e)) (he : P.underlying e = some (.int .u8)) (hcq : P.cellsOf q = 1) (hc : P.cellsOf e = 1)
    (hval : Value.okWide P W r base0 t v) (hd : DataW.Trod enc P W 0 (fun _ => true) true t v d ps) : ∃ ls : List (List UInt8), RowB W v ls := by
  obtain ⟨vs, h1, h2⟩ := open_row1 ht hcq hval hd
  obtain ⟨ls, h3, h4⟩ := lists_of_all (w := W) (vs := vs) (fun x hx => by
    obtain ⟨n, y, h⟩ := h2 x hx
    exact bytes_of_trod hq he hc h)
  exact ⟨ls, vs, h1, h3, h4⟩

/-- An array of one-cell elements, opened. -/
theorem open_array {base0 : Nat} {r : Reach} {t e : TypeId} {len : Nat} {v : Value} {d : DataW H} {ps : List MemPlace} (ht : P.underlying t = some (.array len e)) (hc : P.cellsOf e = 1) (hct : P.cellsOf t = len)
    (hval : Value.okWide P W r base0 t v) (hd : DataW.Trod enc P W 0 (fun _ => true) true t v d ps) :
    ∃ vs : List Value, v = .agg vs.toArray ∧ vs.length = len ∧ ∀ x ∈ vs, ∃ n y, DataW.trod enc P W 0 (fun _ => true) true n e [x] = some y := by
  simp only [Value.okWide, ht] at hval
  obtain ⟨cs, rfl, hsz, _⟩ := hval
  rw [hct] at hsz
  obtain ⟨fuel, hf⟩ := hd
  obtain ⟨xs, m, _, _, hl, hxl, hx⟩ := DataW.trod_array ht hf
  obtain ⟨l⟩ := cs
  refine ⟨l, rfl, by simpa using hsz, fun x hxm => ?_⟩
  obtain ⟨i, hi, rfl⟩ := List.getElem_of_mem hxm
  have hlen : l.length = len := by simpa using hsz
  have hi' : i < len := by omega
  have := hx i hi'
  rw [hc, Nat.mul_one] at this
  refine ⟨m, xs[i]'(by omega), ?_⟩
  rw [List.getElem?_eq_getElem (by omega)] at this
  rw [← this]
  congr 1
  show [l[i]] = (l.drop i).take 1
  rw [List.drop_eq_getElem_cons hi]
  rfl

theorem open_array_ints {base0 : Nat} {r : Reach} {t e : TypeId} {len : Nat} {k : IntKind} {v : Value} {d : DataW H} {ps : List MemPlace} (ht : P.underlying t = some (.array len e)) (he : P.underlying e = some (.int k)) (hc : P.cellsOf e = 1) (hct : P.cellsOf t = len)
    (hval : Value.okWide P W r base0 t v) (hd : DataW.Trod enc P W 0 (fun _ => true) true t v d ps) :
    ∃ zs : List Int, v = .agg (zs.map (Value.int k)).toArray ∧ zs.length = len ∧ ∀ n ∈ zs, (Lit.int k n).wf = true := by
  obtain ⟨vs, rfl, hl, h2⟩ := open_array ht hc hct hval hd
  obtain ⟨l, rfl, hw⟩ := list_of_all (f := Value.int k) (p := fun n => (Lit.int k n).wf = true) (fun x hx => by
    obtain ⟨n, y, h⟩ := h2 x hx
    exact cell_int he h)
  exact ⟨l, rfl, by simpa using hl, hw⟩
end

theorem law_own : ownKnob Try.prog.godebug = none := by kernel_rfl
theorem law_laid : laidOutB Try.prog = true := by kernel_rfl

end Go.Proofs.Ytdjdalaghfknoaa

/- Arguments that are numbers of 32 bytes, bytes, bools, opened. Each theorem names its own conditions. -/
namespace Go.Proofs.Ytdjdalaghfknoaa
open Go.ChangeShapes Go.WideShapes Go.ChangeAt Go.RowKit
set_option linter.unusedVariables false

section
variable {H : Type} {enc : TypeId × Value → H} {P : Program} {W : World}

theorem byte_of {b : Int} (h : (Lit.int .u8 b).wf = true) : ∃ n : UInt8, b = (n.toNat : Int) := by
  have hb : 0 ≤ b ∧ b ≤ 255 := by simpa [Lit.wf, IntKind.min, IntKind.max, IntKind.signed, IntKind.bits] using h
  refine ⟨UInt8.ofNat b.toNat, ?_⟩
  rw [UInt8.toNat_ofNat']
  omega
theorem bytes_of_ints : ∀ {zs : List Int}, (∀ n ∈ zs, (Lit.int .u8 n).wf = true) → ∃ l : List UInt8, zs.map (Value.int .u8) = l.map bval
  | [], _ => ⟨[], rfl⟩
  | z :: r, h => by
    obtain ⟨n, hn⟩ := byte_of (h z (List.mem_cons_self ..))
    obtain ⟨l, hl⟩ := bytes_of_ints (zs := r) (fun x hx => h x (List.mem_cons_of_mem _ hx))
    exact ⟨n :: l, by simp only [List.map_cons, hl, hn]; rfl⟩
/-- A number of 32 bytes. -/
theorem open_num {base0 : Nat} {r : Reach} {t e : TypeId} {v : Value} {d : DataW H} {ps : List MemPlace} (ht : P.underlying t = some (.array 32 e)) (he : P.underlying e = some (.int .u8)) (hc : P.cellsOf e = 1) (hct : P.cellsOf t = 32)
    (hval : Value.okWide P W r base0 t v) (hd : DataW.Trod enc P W 0 (fun _ => true) true t v d ps) : ∃ l : List UInt8, v = .agg (l.map bval).toArray ∧ l.length = 32 := by
  obtain ⟨zs, rfl, hl, hw⟩ := open_array_ints ht he hc hct hval hd
  obtain ⟨l, e⟩ := bytes_of_ints hw
  refine ⟨l, by rw [e], ?_⟩
  have := congrArg List.length e
  simpa [hl] using this.symm
/-- Bytes in an array of whatever length. -/
theorem open_numN {base0 : Nat} {r : Reach} {n : Nat} {t e : TypeId} {v : Value} {d : DataW H} {ps : List MemPlace} (ht : P.underlying t = some (.array n e)) (he : P.underlying e = some (.int .u8)) (hc : P.cellsOf e = 1) (hct : P.cellsOf t = n)
    (hval : Value.okWide P W r base0 t v) (hd : DataW.Trod enc P W 0 (fun _ => true) true t v d ps) : ∃ l : List UInt8, v = .agg (l.map bval).toArray ∧ l.length = n := by
  obtain ⟨zs, rfl, hl, hw⟩ := open_array_ints ht he hc hct hval hd
  obtain ⟨l, e⟩ := bytes_of_ints hw
  refine ⟨l, by rw [e], ?_⟩
  have := congrArg List.length e
  simpa [hl] using this.symm
theorem i64_both {n : Int} (h : (Lit.int .i64 n).wf = true) : -9223372036854775808 ≤ n ∧ n ≤ 9223372036854775807 := by simpa [Lit.wf, IntKind.min, IntKind.max, IntKind.signed, IntKind.bits] using h
theorem i64_lo {n : Int} (h : (Lit.int .i64 n).wf = true) : -9223372036854775808 ≤ n := (i64_both h).1
theorem i64_hi {n : Int} (h : (Lit.int .i64 n).wf = true) : n ≤ 9223372036854775807 := (i64_both h).2
/-- A byte. -/
theorem open_byte {base0 : Nat} {r : Reach} {t : TypeId} {v : Value} {d : DataW H} {ps : List MemPlace} (ht : P.underlying t = some (.int .u8))
    (hval : Value.okWide P W r base0 t v) (hd : DataW.Trod enc P W 0 (fun _ => true) true t v d ps) : ∃ n : UInt8, v = .int .u8 (n.toNat : Int) := by
  obtain ⟨z, rfl, _, _, hw⟩ := open_int ht hval hd
  obtain ⟨n, rfl⟩ := byte_of hw
  exact ⟨n, rfl⟩
end

end Go.Proofs.Ytdjdalaghfknoaa

/- Digits to any base: their number, one digit turned, parts of them, what they are when they are none too great. No program. Each theorem names its own conditions. -/
namespace Go.Proofs.Ytdjdalaghfknoaa
open Go.RowKit
set_option linter.unusedVariables false
set_option linter.unusedSimpArgs false

/-- The number that digits to the base B are, the lowest first. -/
def gV (B : Int) : List Int → Int
  | [] => 0
  | z :: r => z + B * gV B r
theorem gV_set (B : Int) : ∀ (zs : List Int) (i : Nat) (z : Int), i < zs.length → gV B (zs.set i z) = gV B zs + (z - zs.getD i 0) * B ^ i
  | [], i, z, h => by simp at h
  | a :: r, 0, z, h => by simp [gV]; omega
  | a :: r, i + 1, z, h => by
    have := gV_set B r i z (by simpa using h)
    simp only [List.set_cons_succ, gV, this, List.getD_cons_succ, Int.pow_succ]
    grind
theorem gV_append (B : Int) : ∀ (a b : List Int), gV B (a ++ b) = gV B a + B ^ a.length * gV B b
  | [], b => by simp [gV]
  | z :: r, b => by
    simp only [List.cons_append, gV, gV_append B r b, List.length_cons, Int.pow_succ]
    grind
theorem gV_cut (B : Int) (zs : List Int) (d : Nat) (h : d ≤ zs.length) : gV B zs = gV B (zs.take d) + B ^ d * gV B (zs.drop d) := by
  have := gV_append B (zs.take d) (zs.drop d)
  rw [List.take_append_drop, List.length_take, Nat.min_eq_left h] at this
  exact this
theorem gV_take_succ (B : Int) (zs : List Int) (k : Nat) (h : k < zs.length) : gV B (zs.take (k + 1)) = gV B (zs.take k) + zs.getD k 0 * B ^ k := by
  rw [List.take_succ_eq_append_getElem h, gV_append, List.length_take, Nat.min_eq_left (by omega)]
  simp only [gV, List.getD, List.getElem?_eq_getElem h, Option.getD_some]
  grind
theorem gV_zeros (B : Int) : ∀ (n : Nat), gV B (List.replicate n 0) = 0
  | 0 => rfl
  | n + 1 => by simp [List.replicate_succ, gV, gV_zeros B n]
theorem gV_zero_of (B : Int) : ∀ {zs : List Int}, (∀ i, zs.getD i 0 = 0) → gV B zs = 0
  | [], _ => rfl
  | z :: r, h => by
    have h0 : z = 0 := h 0
    have h1 := gV_zero_of B (zs := r) (fun i => by have := h (i + 1); simpa using this)
    simp [gV, h0, h1]
theorem gV_range {B : Int} (hB : 0 < B) : ∀ {zs : List Int}, (∀ i, i < zs.length → 0 ≤ zs.getD i 0 ∧ zs.getD i 0 < B) → 0 ≤ gV B zs ∧ gV B zs < B ^ zs.length
  | [], _ => by simp [gV]
  | z :: r, h => by
    have h0 : 0 ≤ z ∧ z < B := h 0 (by simp)
    have h1 := gV_range hB (zs := r) (fun i hi => by have := h (i + 1) (by simpa using hi); simpa using this)
    obtain ⟨p1, p2⟩ := h1
    have q1 : 0 ≤ B * gV B r := Int.mul_nonneg (by omega) p1
    have q2 : B * (gV B r + 1) ≤ B * B ^ r.length := Int.mul_le_mul_of_nonneg_left (by omega) (by omega)
    rw [Int.mul_add, Int.mul_one] at q2
    simp only [gV, List.length_cons, Int.pow_succ]
    rw [Int.mul_comm (B ^ r.length) B]
    omega
theorem gV_inj {B : Int} (hB : 0 < B) : ∀ {xs ys : List Int}, xs.length = ys.length → (∀ i, i < xs.length → 0 ≤ xs.getD i 0 ∧ xs.getD i 0 < B) → (∀ i, i < ys.length → 0 ≤ ys.getD i 0 ∧ ys.getD i 0 < B) → gV B xs = gV B ys → xs = ys
  | [], [], _, _, _, _ => rfl
  | [], _ :: _, h, _, _, _ => by simp at h
  | _ :: _, [], h, _, _, _ => by simp at h
  | x :: r, y :: s, hl, h1, h2, he => by
    have a1 : 0 ≤ x ∧ x < B := h1 0 (by simp)
    have a2 : 0 ≤ y ∧ y < B := h2 0 (by simp)
    simp only [gV] at he
    have e1 : (x + B * gV B r) % B = x := by rw [Int.add_mul_emod_self_left, Int.emod_eq_of_lt a1.1 a1.2]
    have e2 : (y + B * gV B s) % B = y := by rw [Int.add_mul_emod_self_left, Int.emod_eq_of_lt a2.1 a2.2]
    have e3 : x = y := by rw [← e1, ← e2, he]
    subst e3
    have e4 : gV B r = gV B s := Int.eq_of_mul_eq_mul_left (by omega : B ≠ 0) (by omega)
    rw [gV_inj hB (by simpa using hl) (fun i hi => by have := h1 (i + 1) (by simpa using hi); simpa using this) (fun i hi => by have := h2 (i + 1) (by simpa using hi); simpa using this) e4]

theorem getD_eq {zs : List Int} {i : Nat} (h : i < zs.length) : zs.getD i 0 = zs[i] := by simp [List.getD, h]
theorem getD_out {zs : List Int} {i : Nat} (h : zs.length ≤ i) : zs.getD i 0 = 0 := by simp [List.getD, h]
theorem getD_take {zs : List Int} {i d : Nat} (h : i < d) : (zs.take d).getD i 0 = zs.getD i 0 := by simp [List.getD, List.getElem?_take, h]
theorem getD_drop {zs : List Int} {i d : Nat} : (zs.drop d).getD i 0 = zs.getD (d + i) 0 := by simp [List.getD, List.getElem?_drop]
theorem ext_getD {xs ys : List Int} (hl : xs.length = ys.length) (h : ∀ i, i < xs.length → xs.getD i 0 = ys.getD i 0) : xs = ys := by
  apply List.ext_getElem hl
  intro i h1 h2
  have := h i h1
  rwa [getD_eq h1, getD_eq h2] at this
theorem take_eq {xs ys : List Int} {d : Nat} (hl : xs.length = ys.length) (hd : d ≤ xs.length) (h : ∀ i, i < d → xs.getD i 0 = ys.getD i 0) : xs.take d = ys.take d := by
  apply ext_getD (by simp [hl])
  intro i hi
  have hi2 : i < d := by simp at hi; omega
  rw [getD_take hi2, getD_take hi2, h i hi2]
/-- The lowest digits of what is no digit too great: the rest of the number is the upper digits'. -/
theorem gV_div {B : Int} (hB : 0 < B) {zs : List Int} {d : Nat} (hd : d ≤ zs.length) (h : ∀ i, i < d → 0 ≤ zs.getD i 0 ∧ zs.getD i 0 < B) : gV B zs / B ^ d = gV B (zs.drop d) := by
  have hr := gV_range hB (zs := zs.take d) (fun i hi => by
    have hi2 : i < d := by simp at hi; omega
    rw [getD_take hi2]
    exact h i hi2)
  rw [List.length_take, Nat.min_eq_left hd] at hr
  have hp : 0 < B ^ d := Int.pow_pos hB
  rw [gV_cut B zs d hd, Int.add_mul_ediv_left _ _ (by omega), Int.ediv_eq_zero_of_lt hr.1 hr.2, Int.zero_add]

theorem Blk.seti {w : World} {c : Nat} {k : IntKind} {zs : List Int} {t : TypeId} (h : Blk w c (ints k zs) t) (i : Nat) (z : Int) : Blk (w.setCell ⟨c, i, none⟩ (.int k z)) c (ints k (zs.set i z)) t := by
  rw [← ints_set]
  exact h.set i _
/-- The bytes of a number, as digits. -/
def dig (n x : Nat) : List Int := (bytesN n x).map fun b => (b.toNat : Int)
theorem dig_length (n x : Nat) : (dig n x).length = n := by simp [dig, bytesN_length]
theorem gV_bytes : ∀ (l : List UInt8), gV 256 (l.map fun b => (b.toNat : Int)) = (leN l : Nat)
  | [] => rfl
  | b :: r => by
    simp only [List.map_cons, gV, gV_bytes r, leN]
    omega
theorem gV_dig (n x : Nat) : gV 256 (dig n x) = ((x % 256 ^ n : Nat) : Int) := by
  unfold dig
  rw [gV_bytes, leN_bytesN]
theorem byte_digits (l : List UInt8) : ∀ i, i < (l.map fun b => (b.toNat : Int)).length → 0 ≤ (l.map fun b => (b.toNat : Int)).getD i 0 ∧ (l.map fun b => (b.toNat : Int)).getD i 0 < 256 := by
  intro i hi
  have hi2 : i < l.length := by simpa using hi
  rw [getD_eq hi, List.getElem_map]
  have := l[i].toNat_lt
  omega
theorem dig_digits (n x : Nat) : ∀ i, i < n → 0 ≤ (dig n x).getD i 0 ∧ (dig n x).getD i 0 < 256 := by
  intro i hi
  exact byte_digits (bytesN n x) i (by simp [bytesN_length, hi])
/-- Digits that are none too great are those of their number. -/
theorem dig_of {zs : List Int} {n x : Nat} (hl : zs.length = n) (h : ∀ i, i < n → 0 ≤ zs.getD i 0 ∧ zs.getD i 0 < 256) (hv : gV 256 zs = (x : Int)) : zs = dig n x := by
  have hr := gV_range (B := 256) (by omega) (zs := zs) (fun i hi => h i (by omega))
  have hx : x < 256 ^ n := by
    have h1 := hr.2
    rw [hv, hl] at h1
    have e : ((256 : Int) ^ n) = ((256 ^ n : Nat) : Int) := by simp
    rw [e] at h1
    omega
  refine gV_inj (B := 256) (by omega) (by rw [dig_length, hl]) (fun i hi => h i (by omega)) (fun i hi => dig_digits n x i (by rwa [dig_length] at hi)) ?_
  rw [gV_dig, Nat.mod_eq_of_lt hx, hv]

theorem bytesN_getD : ∀ (n x i : Nat), i < n → ((bytesN n x).getD i 0).toNat = x / 256 ^ i % 256
  | 0, _, _, h => by omega
  | n + 1, x, 0, _ => by
    simp only [bytesN, List.getD_cons_zero, Nat.pow_zero, Nat.div_one]
    rw [UInt8.toNat_ofNat']
    omega
  | n + 1, x, i + 1, h => by
    simp only [bytesN, List.getD_cons_succ]
    rw [bytesN_getD n (x / 256) i (by omega), Nat.div_div_eq_div_mul, Nat.pow_succ, Nat.mul_comm 256]

/-- The first k bytes of l, and noughts behind. -/
def fill (n : Nat) (l : List UInt8) (k : Nat) : List UInt8 := l.take k ++ List.replicate (n - k) 0
theorem fill_zero (n : Nat) (l : List UInt8) : fill n l 0 = List.replicate n 0 := by simp [fill]
theorem fill_full {n : Nat} {l : List UInt8} (h : l.length = n) : fill n l n = l := by simp [fill, ← h]
theorem fill_length {n k : Nat} {l : List UInt8} (h : l.length = n) (hk : k ≤ n) : (fill n l k).length = n := by simp [fill]; omega
theorem fill_set {n k : Nat} {l : List UInt8} (h : l.length = n) (hk : k < n) : (fill n l k).set k (l.getD k 0) = fill n l (k + 1) := by
  unfold fill
  have e1 : (l.take k).length = k := by simp; omega
  have e2 : n - k = (n - (k + 1)) + 1 := by omega
  have hk2 : k < l.length := by omega
  have e3 : l.getD k 0 = l[k] := by simp [List.getD, hk2]
  rw [List.set_append_right _ _ (by omega), e1, Nat.sub_self, e2, List.replicate_succ, List.set_cons_zero, e3, List.take_succ_eq_append_getElem hk2, List.append_assoc]
  rfl
theorem fill_set_val {n k : Nat} {l : List UInt8} (h : l.length = n) (hk : k < n) {z : Int} (hz : z = ((l.getD k 0).toNat : Int)) : ((fill n l k).map bval).set k (.int .u8 z) = (fill n l (k + 1)).map bval := by
  subst hz
  have : Value.int .u8 ((l.getD k 0).toNat : Int) = bval (l.getD k 0) := rfl
  rw [this, ← List.map_set, fill_set h hk]
theorem fill_start (n : Nat) (l : List UInt8) : (fill n l 0).map bval = ints .u8 (List.replicate n 0) := by
  rw [fill_zero]
  simp [ints, bval]

theorem or_i64 (a b : Nat) (ha : a < 9223372036854775808) (hb : b < 9223372036854775808) : bits .or .i64 (a : Int) (b : Int) = ((a ||| b : Nat) : Int) := by
  have e1 : (BitVec.ofInt 64 (a : Int)).toNat = a := by rw [BitVec.toNat_ofInt]; omega
  have e2 : (BitVec.ofInt 64 (b : Int)).toNat = b := by rw [BitVec.toNat_ofInt]; omega
  show IntKind.i64.wrap ((BitVec.ofInt 64 (a : Int) ||| BitVec.ofInt 64 (b : Int)).toNat : Nat) = _
  have e3 : a ||| b < 2 ^ 63 := Nat.or_lt_two_pow ha hb
  rw [BitVec.toNat_or, e1, e2, IntKind.wrap_i64]
  omega
theorem and_i64_255 (a : Int) (h1 : -9223372036854775808 ≤ a) (h2 : a ≤ 9223372036854775807) : bits .and .i64 a 255 = a % 256 := by
  have h : (BitVec.ofInt 64 255).toNat = 2 ^ 8 - 1 := by decide
  have key : (BitVec.ofInt 64 a &&& BitVec.ofInt 64 255).toNat = (a % ((2 ^ 64 : Nat) : Int)).toNat % 2 ^ 8 := by
    rw [BitVec.toNat_and, BitVec.toNat_ofInt, h, Nat.and_two_pow_sub_one_eq_mod]
  show IntKind.i64.wrap ((BitVec.ofInt 64 a &&& BitVec.ofInt 64 255).toNat : Nat) = _
  rw [key, IntKind.wrap_i64]
  omega
theorem and_i64_1 (a : Int) (h1 : -9223372036854775808 ≤ a) (h2 : a ≤ 9223372036854775807) : bits .and .i64 a 1 = a % 2 := by
  have h : (BitVec.ofInt 64 1).toNat = 2 ^ 1 - 1 := by decide
  have key : (BitVec.ofInt 64 a &&& BitVec.ofInt 64 1).toNat = (a % ((2 ^ 64 : Nat) : Int)).toNat % 2 ^ 1 := by
    rw [BitVec.toNat_and, BitVec.toNat_ofInt, h, Nat.and_two_pow_sub_one_eq_mod]
  show IntKind.i64.wrap ((BitVec.ofInt 64 a &&& BitVec.ofInt 64 1).toNat : Nat) = _
  rw [key, IntKind.wrap_i64]
  omega

end Go.Proofs.Ytdjdalaghfknoaa

/- What chapter 12's products come to: a number's bits that make no difference, and two that come to one secret. No program. Each theorem names its own conditions. -/
namespace Go.Proofs.Ytdjdalaghfknoaa
open Go.RowKit
set_option linter.unusedVariables false

theorem leN_byteL (l : List UInt8) (i : Nat) (h : i < l.length) : (l.getD i 0).toNat = leN l / 256 ^ i % 256 := by
  have e := bytesN_leN l
  have h2 := bytesN_getD l.length (leN l) i h
  rw [e] at h2
  exact h2
theorem leN_top {l : List UInt8} (h : l.length = 32) (ht : (l.getD 31 0).toNat < 128) : leN l < 2 ^ 255 := by
  have h1 := leN_byteL l 31 (by omega)
  have h2 := leN_lt l
  rw [h] at h2
  have e : (256 : Nat) ^ 32 = 256 ^ 31 * 256 := by decide +kernel
  have h3 : leN l / 256 ^ 31 < 256 := (Nat.div_lt_iff_lt_mul (by decide)).2 (by rw [Nat.mul_comm, ← e]; exact h2)
  rw [Nat.mod_eq_of_lt h3] at h1
  rw [h1] at ht
  have h4 := (Nat.div_lt_iff_lt_mul (by decide)).1 ht
  have e2 : (128 : Nat) * 256 ^ 31 = 2 ^ 255 := by decide +kernel
  rw [e2] at h4
  exact h4
theorem u8_mask (b : UInt8) (h : b.toNat < 128) : b &&& 127 = b := by
  have hh : ∀ n : Fin 128, (UInt8.ofNat n.val) &&& 127 = UInt8.ofNat n.val := by decide +kernel
  have := hh ⟨b.toNat, h⟩
  simpa using this
theorem mask_id {l : List UInt8} (h : l.length = 32) (ht : (l.getD 31 0).toNat < 128) : maskB l = l := by
  unfold maskB
  rw [u8_mask _ ht]
  apply List.ext_getElem?
  intro i
  rw [List.getElem?_set]
  split
  · rename_i e
    subst e
    rw [List.getD_eq_getElem?_getD, List.getElem?_eq_getElem (by omega)]
    simp [h]
  · rfl
theorem nbF_top (f : Fp) : ((nbF f).getD 31 0).toNat < 128 := by
  unfold nbF
  rw [bytesN_getD 32 f.val 31 (by omega)]
  have h1 := f.isLt
  have h2 : f.val < 2 ^ 255 := Nat.lt_trans h1 (by decide +kernel)
  have e2 : (2 : Nat) ^ 255 = 128 * 256 ^ 31 := by decide +kernel
  rw [e2] at h2
  have h3 := (Nat.div_lt_iff_lt_mul (by decide : 0 < 256 ^ 31)).2 h2
  omega
theorem mask_nbF (f : Fp) : maskB (nbF f) = nbF f := mask_id (nbF_length f) (nbF_top f)
theorem fp_nbF (f : Fp) : fp (leN (nbF f)) = f := by
  unfold nbF
  rw [leN_bytesN, Nat.mod_eq_of_lt (Nat.lt_trans f.isLt (by decide +kernel))]
  apply Fin.ext
  rw [fp_val, Int.emod_eq_of_lt (Int.natCast_nonneg _) (by have := f.isLt; have e : pP = ((pN : Nat) : Int) := (by decide +kernel); rw [e]; exact Int.ofNat_lt.2 this)]
  rfl
theorem ladB_nbF (k : List UInt8) (f : Fp) : ladB k (nbF f) = nbF (lmul (leN (clampB k)) f) := by
  unfold ladB
  rw [mask_nbF, fp_nbF]

theorem u8_ctop (b : UInt8) : (b &&& 127 ||| 64).toNat < 128 := by
  have hh : ∀ n : Fin 256, ((UInt8.ofNat n.val) &&& 127 ||| 64).toNat < 128 := by decide +kernel
  have := hh ⟨b.toNat, b.toNat_lt⟩
  simpa using this
theorem u8_clow (b : UInt8) : (b &&& 248).toNat % 8 = 0 := by
  have hh : ∀ n : Fin 256, ((UInt8.ofNat n.val) &&& 248).toNat % 8 = 0 := by decide +kernel
  have := hh ⟨b.toNat, b.toNat_lt⟩
  simpa using this
theorem clamp_lt {k : List UInt8} (h : k.length = 32) : leN (clampB k) < 2 ^ 255 := by
  refine leN_top (clampB_length h) ?_
  unfold clampB
  rw [List.getD_eq_getElem?_getD, List.getElem?_set_self (by simp [h])]
  exact u8_ctop _
theorem clamp_low {k : List UInt8} (h : k.length = 32) : leN (clampB k) % 8 = 0 := by
  have h1 := leN_byteL (clampB k) 0 (by rw [clampB_length h]; omega)
  have h2 : ((clampB k).getD 0 0).toNat % 8 = 0 := by
    unfold clampB
    rw [List.getD_eq_getElem?_getD, List.getElem?_set_ne (by omega), List.getElem?_set_self (by simp [h])]
    exact u8_clow _
  rw [h1] at h2
  simp at h2
  omega
theorem nine_uv : fp (leN (maskB nineB)) = uv bP := by
  rw [uv_base]
  decide +kernel
theorem pubB_eq (k : List UInt8) : pubB k = nbF (lmul (leN (clampB k)) (uv bP)) := by
  unfold pubB ladB
  rw [nine_uv]
/-- Two come to one secret. -/
theorem lad_shares {a b : List UInt8} (ha : a.length = 32) (hb : b.length = 32) : ladB a (pubB b) = ladB b (pubB a) := by
  rw [pubB_eq, pubB_eq, ladB_nbF, ladB_nbF, lmul_comm bP (clamp_lt ha) (by have := clamp_low ha; omega) (clamp_lt hb) (by have := clamp_low hb; omega)]

end Go.Proofs.Ytdjdalaghfknoaa

/- Further numbers of chapter 12: bits that make no difference, points that lead to nothing, p more, nine times nine. No program. Each theorem names its own conditions. -/
namespace Go.Proofs.Ytdjdalaghfknoaa
open Go.RowKit
set_option linter.unusedVariables false

theorem b8_dist (a b c : UInt8) : (a ||| b) &&& c = a &&& c ||| b &&& c := by
  apply UInt8.toBitVec_inj.1
  apply BitVec.eq_of_getLsbD_eq
  intro i hi
  simp [Bool.and_or_distrib_right]
theorem b8_64 (a : UInt8) : a &&& 64 ||| 64 = 64 := by
  apply UInt8.toBitVec_inj.1
  apply BitVec.eq_of_getLsbD_eq
  intro i hi
  simp
theorem b8_low (a l : UInt8) : (a &&& 248 ||| l &&& 7) &&& 248 = a &&& 248 := by
  rw [b8_dist, UInt8.and_assoc, UInt8.and_assoc, show (248 : UInt8) &&& 248 = 248 by decide, show (7 : UInt8) &&& 248 = 0 by decide, UInt8.and_zero, UInt8.or_zero]
theorem b8_high (a l : UInt8) : (a &&& 63 ||| l &&& 192) &&& 127 ||| 64 = a &&& 127 ||| 64 := by
  rw [b8_dist, UInt8.and_assoc, UInt8.and_assoc, show (63 : UInt8) &&& 127 = 63 by decide, show (192 : UInt8) &&& 127 = 64 by decide, UInt8.or_assoc]
  rw [b8_64]
  have e2 : a &&& 127 ||| 64 = (a &&& 63 ||| a &&& 64) ||| 64 := by rw [show (127 : UInt8) = 63 ||| 64 by decide, UInt8.and_comm a, b8_dist, UInt8.and_comm 63, UInt8.and_comm 64]
  rw [e2, UInt8.or_assoc, b8_64]
theorem b8_top (a l : UInt8) : (a &&& 127 ||| l &&& 128) &&& 127 = a &&& 127 := by
  rw [b8_dist, UInt8.and_assoc, UInt8.and_assoc, show (127 : UInt8) &&& 127 = 127 by decide, show (128 : UInt8) &&& 127 = 0 by decide, UInt8.and_zero, UInt8.or_zero]
theorem b8_or (a t : UInt8) (h : a.toNat < 128) : (a ||| t &&& 128) &&& 127 = a := by
  rw [b8_dist, UInt8.and_assoc, show (128 : UInt8) &&& 127 = 0 by decide, UInt8.and_zero, UInt8.or_zero, u8_mask a h]

/-- A number of which bits are turned that the product does not look at. -/
def bitsB (k : List UInt8) (x y : UInt8) : List UInt8 := (k.set 0 (k.getD 0 0 &&& 248 ||| x &&& 7)).set 31 (k.getD 31 0 &&& 63 ||| y &&& 192)
def topB (u : List UInt8) (t : UInt8) : List UInt8 := u.set 31 (u.getD 31 0 &&& 127 ||| t &&& 128)
theorem bitsB_length {k : List UInt8} (x y : UInt8) (h : k.length = 32) : (bitsB k x y).length = 32 := by simp [bitsB, h]
theorem topB_length {u : List UInt8} (t : UInt8) (h : u.length = 32) : (topB u t).length = 32 := by simp [topB, h]
theorem getD_set_self (l : List UInt8) (i : Nat) (v : UInt8) (h : i < l.length) : (l.set i v).getD i 0 = v := by
  rw [List.getD_eq_getElem?_getD, List.getElem?_set_self h]
  rfl
theorem getD_set_ne (l : List UInt8) (i j : Nat) (v : UInt8) (h : i ≠ j) : (l.set i v).getD j 0 = l.getD j 0 := by
  rw [List.getD_eq_getElem?_getD, List.getElem?_set_ne h, ← List.getD_eq_getElem?_getD]
theorem clamp_bits {k : List UInt8} (x y : UInt8) (h : k.length = 32) : clampB (bitsB k x y) = clampB k := by
  unfold clampB bitsB
  simp only [getD_set_ne _ 31 0 _ (by omega), getD_set_ne _ 0 31 _ (by omega), getD_set_self _ 0 _ (show 0 < k.length by omega), getD_set_self _ 31 _ (show 31 < (k.set 0 (k.getD 0 0 &&& 248 ||| x &&& 7)).length by simp [h]), b8_low, b8_high]
  rw [List.set_comm _ _ (by omega : (31 : Nat) ≠ 0)]
  simp only [List.set_set]
theorem mask_top {u : List UInt8} (t : UInt8) (h : u.length = 32) : maskB (topB u t) = maskB u := by
  unfold maskB topB
  rw [getD_set_self _ 31 _ (by omega), b8_top, List.set_set]
theorem lad_bits {k u : List UInt8} (x y t : UInt8) (hk : k.length = 32) (hu : u.length = 32) : ladB (bitsB k x y) (topB u t) = ladB k u := by
  unfold ladB
  rw [clamp_bits x y hk, mask_top t hu]

/-- A number with its highest bit turned on, it may be. -/
def orB (u : List UInt8) (t : UInt8) : List UInt8 := u.set 31 (u.getD 31 0 ||| t &&& 128)
theorem orB_length {u : List UInt8} (t : UInt8) (h : u.length = 32) : (orB u t).length = 32 := by simp [orB, h]
theorem mask_or {u : List UInt8} (t : UInt8) (h : u.length = 32) (ht : (u.getD 31 0).toNat < 128) : maskB (orB u t) = u := by
  unfold maskB orB
  rw [getD_set_self _ 31 _ (by omega), b8_or _ _ ht, List.set_set]
  have := mask_id h ht
  unfold maskB at this
  rwa [u8_mask _ ht] at this
theorem lad_low {k u : List UInt8} (t : UInt8) (hk : k.length = 32) (hu : u.length = 32) (ht : (u.getD 31 0).toNat < 128) (hx : fp (leN u) = 0 ∨ fp (leN u) = 1 ∨ fp (leN u) = -1) : ladB k (orB u t) = zer := by
  unfold ladB
  rw [mask_or t hu ht]
  have h4 : leN (clampB k) % 4 = 0 := by have := clamp_low hk; omega
  rcases hx with h | h | h
  · rw [h, lmul_zero, nbF_nought]
  · rw [h, lmul_one' (clamp_lt hk) h4, nbF_nought]
  · rw [h, lmul_minus (clamp_lt hk) h4, nbF_nought]
theorem low_zer : (zer.getD 31 0).toNat < 128 ∧ fp (leN zer) = 0 := by decide +kernel
theorem low_one : ((smL 1).getD 31 0).toNat < 128 ∧ fp (leN (smL 1)) = 1 := by decide +kernel
theorem low_minus : ((bytesN 32 (((leN zer : Int) - (leN (smL 1) : Int)) % pP).toNat).getD 31 0).toNat < 128 ∧ fp (leN (bytesN 32 (((leN zer : Int) - (leN (smL 1) : Int)) % pP).toNat)) = -1 := by decide +kernel

/-- A small number, told by p more; and while it is laid. -/
def canB (n : UInt8) (k : Nat) : List UInt8 := (237 + n) :: (List.replicate k 255 ++ List.replicate (31 - k) 0)
def canP (n : UInt8) : List UInt8 := (237 + n) :: (List.replicate 30 255 ++ [127])
theorem canB_length (n : UInt8) (k : Nat) (h : k ≤ 31) : (canB n k).length = 32 := by simp [canB]; omega
theorem canP_length (n : UInt8) : (canP n).length = 32 := by simp [canP]
theorem canB_set (n : UInt8) (k : Nat) (h : k < 31) : (canB n k).set (k + 1) 255 = canB n (k + 1) := by
  unfold canB
  rw [List.set_cons_succ, List.set_append_right _ _ (by simp), List.length_replicate, Nat.sub_self]
  obtain ⟨m, hm⟩ : ∃ m, 31 - k = m + 1 := ⟨31 - k - 1, by omega⟩
  rw [hm, show 31 - (k + 1) = m by omega, List.replicate_succ (n := m), List.set_cons_zero, List.replicate_succ', List.append_assoc]
  rfl
theorem canB_last (n : UInt8) : (canB n 31).set 31 127 = canP n := by
  unfold canB canP
  rfl
theorem canP_eq (n : UInt8) (h : n.toNat ≤ 18) : leN (canP n) = n.toNat + pN := by
  have hh : ∀ m : Fin 19, leN (canP (UInt8.ofNat m.val)) = (UInt8.ofNat m.val).toNat + pN := by decide +kernel
  have := hh ⟨n.toNat, by omega⟩
  simpa using this
theorem canP_top (n : UInt8) : ((canP n).getD 31 0).toNat < 128 := by
  have h : (canP n).getD 31 0 = 127 := rfl
  rw [h]
  decide
theorem smL_top (n : UInt8) : ((smL n).getD 31 0).toNat < 128 := by
  have h : (smL n).getD 31 0 = 0 := rfl
  rw [h]
  decide
theorem can_fp {n : UInt8} (h : n.toNat ≤ 18) : fp ((leN (canP n) : Nat) : Int) = fp ((leN (smL n) : Nat) : Int) := by
  rw [canP_eq n h, leN_smL, fp_eq]
  have e : pP = ((pN : Nat) : Int) := by decide +kernel
  unfold Cong
  rw [e]
  exact ⟨1, by rw [Int.mul_one]; omega⟩
theorem lad_can (k : List UInt8) {n : UInt8} (h : n.toNat ≤ 18) : ladB k (canP n) = ladB k (smL n) := by
  unfold ladB
  rw [mask_id (canP_length n) (canP_top n), mask_id (smL_length n) (smL_top n), can_fp h]

/-! ### Nine times nine -/
def nineR : List UInt8 := bytesN 32 54815864700279561125610391355931320566748822376190344121911385527384361806914
theorem clamp_nine : leN (clampB (smL 9)) = nineN := by decide +kernel
theorem mask_nine : fp (leN (maskB (smL 9))) = 9 := by decide +kernel
theorem nine_z : (lrun 9 nineN 255).z2 ≠ 0 := by decide +kernel
theorem lad_nine : ladB (smL 9) (smL 9) = nineR := by
  unfold ladB
  rw [clamp_nine, mask_nine]
  have h : lmul nineN 9 = fp 54815864700279561125610391355931320566748822376190344121911385527384361806914 := by
    unfold lmul
    rw [lrun_nine, Fin.mul_assoc, f_inv nine_z, Fin.mul_one]
  rw [h]
  decide +kernel

end Go.Proofs.Ytdjdalaghfknoaa

/- The walk of the document's own Sub modulo p. Each theorem names its own conditions. -/
namespace Go.Proofs.Ytdjdalaghfknoaa
open Go.RowKit
set_option linter.unusedVariables false
set_option linter.unusedSimpArgs false

set_option maxHeartbeats 2000000 in
theorem rSub_num (l m : List UInt8) (w : World) (hl : l.length = 32) (hm : m.length = 32) :
    Calls Try.prog 19 #[.agg (l.map bval).toArray, .agg (m.map bval).toArray] w fun e w' => e = .returned (numP (leN l - leN m)) ∧ Below w.heap.size w w' := by
  have HL := Lib.hid hl
  have HM := Lib.hid hm
  have HBX := Lib.hid (boxes3 w (l.map bval) (m.map bval) (ints .u8 (List.replicate 32 0)) 23 23 23)
  have hu := Try.underlying23
  have hi1 : (Try.prog.info? 23).map (·.size) = some (l.map bval).length := by rw [List.length_map, hl]; exact Try.arr23
  have hi2 : (Try.prog.info? 23).map (·.size) = some (m.map bval).length := by rw [List.length_map, hm]; exact Try.arr23
  have HI3 : Hid ((Try.prog.info? 23).map (·.size) = some ((bytesN 32 (((leN l : Int) - leN m) % pP).toNat).map bval).length) := Lib.hid (by rw [List.length_map, bytesN_length]; exact Try.arr23)
  have HI1 := Lib.hid hi1
  have HI2 := Lib.hid hi2
  have HU := Lib.hid hu
  clear hl hm hi1 hi2 hu
  go_enter Try.func19, Try.ntmps19
  go_wp2_with fail
  change Code.wp _ _ _ _ (((w.alloc (.cells (l.map bval).toArray 23)).alloc (.cells (m.map bval).toArray 23)).alloc (.cells (ints .u8 (List.replicate 32 0)).toArray 23))
  generalize ((w.alloc (.cells (l.map bval).toArray 23)).alloc (.cells (m.map bval).toArray 23)).alloc (.cells (ints .u8 (List.replicate 32 0)).toArray 23) = w0 at *
  obtain ⟨h1, h2, h3, h4⟩ := HBX.out
  obtain ⟨A, hA⟩ : ∃ A, A = w.heap.size := ⟨_, rfl⟩
  rw [← hA] at h1 h2 h3 ⊢
  have hA2 : w.heap.size ≤ A := by omega
  have H1 := Lib.hid h1
  have H2 := Lib.hid h2
  have H3 := Lib.hid h3
  have H4 := Lib.hid h4
  clear h1 h2 h3 h4 HBX hA
  have hi1 := HI1.out
  have hi2 := HI2.out
  have hu := HU.out
  have B0 : Below w0.heap.size w0 w0.drew := (Below.refl _ _).drew
  refine wp_region_held_drew (S := fun w' => w'.rangeAt A 0 (l.map bval) ∧ w'.rangeAt (A + 1) 0 (m.map bval)) (by kernel_rfl) ⟨bl_range H1.out B0, bl_range H2.out B0⟩ (fun hHeld => ?_)
  refine wpAnyH_take (i := 0) (v := .agg (l.map bval).toArray) rfl (by kernel_rfl) (by kernel_rfl) (by kernel_rfl) (fun _ _ _ h => h) (yieldsIf_load_mid (by rfl) _ _ rfl A 0 rfl _ _ (fun w h => h.1) hu rfl hi1) hHeld ?_
  try simp only [Act.put, List.setIfInBounds_toArray, List.set_cons_zero, List.set_cons_succ]
  refine wpAnyH_take (i := 2) (v := .agg (m.map bval).toArray) rfl (by kernel_rfl) (by kernel_rfl) (by kernel_rfl) (fun _ _ _ h => h) (yieldsIf_load_mid (by rfl) _ _ rfl (A + 1) 0 rfl _ _ (fun w h => h.2) hu rfl hi2) hHeld ?_
  try simp only [Act.put, List.setIfInBounds_toArray, List.set_cons_zero, List.set_cons_succ]
  refine wpAnyH_ready (rs := [1]) (by kernel_rfl) (by simp) (AllReadyH.cons rfl (fun K hK => ?_) AllReadyH.nil)
  go_simp
  refine (rin_el l _ HL.out).mono ?_
  rintro e w1 ⟨r1, rfl, e1, b1⟩
  have B1 := B0.trans (b1.mono B0.size)
  refine hK.out _ _ ⟨bl_range H1.out B1, bl_range H2.out B1⟩ (fun hHeld => ?_)
  clear hK K hHeld
  try simp only [Act.put, List.setIfInBounds_toArray, List.set_cons_zero, List.set_cons_succ]
  refine wpAnyH_ready (rs := [3]) (by kernel_rfl) (by simp) (AllReadyH.cons rfl (fun K hK => ?_) AllReadyH.nil)
  go_simp
  refine (rin_el m _ HM.out).mono ?_
  rintro e w2 ⟨r2, rfl, e2, b2⟩
  have B2 := B1.trans (b2.mono B1.size)
  refine hK.out _ _ ⟨bl_range H1.out B2, bl_range H2.out B2⟩ (fun hHeld => ?_)
  clear hK K hHeld
  try simp only [Act.put, List.setIfInBounds_toArray, List.set_cons_zero, List.set_cons_succ]
  refine wpAnyH_ready (rs := [4]) (by kernel_rfl) (by simp) (AllReadyH.cons rfl (fun K hK => ?_) AllReadyH.nil)
  go_simp
  refine (rsub_any _ _ _ _ _ e1 e2).mono ?_
  rintro e w3 ⟨r3, rfl, e3, b3⟩
  have B3 := B2.trans (b3.mono B2.size)
  refine hK.out _ _ ⟨bl_range H1.out B3, bl_range H2.out B3⟩ (fun hHeld => ?_)
  clear hK K hHeld
  try simp only [Act.put, List.setIfInBounds_toArray, List.set_cons_zero, List.set_cons_succ]
  refine wpAnyH_ready (rs := [5]) (by kernel_rfl) (by simp) (AllReadyH.cons rfl (fun K hK => ?_) AllReadyH.nil)
  go_simp
  refine (rout_any _ _ _ e3).mono ?_
  rintro e w4 ⟨rfl, b4⟩
  have B4 := B3.trans (b4.mono B3.size)
  refine hK.out _ _ ⟨bl_range H1.out B4, bl_range H2.out B4⟩ (fun hHeld => ?_)
  clear hK K hHeld
  try simp only [Act.put, List.setIfInBounds_toArray, List.set_cons_zero, List.set_cons_succ]
  refine wpAnyH_ready (rs := [6]) (by kernel_rfl) (by simp) (AllReadyH.cons rfl (fun K hK => ?_) AllReadyH.nil)
  rw [if_pos (by rfl)]
  refine wp_store_blk _ _ _ rfl (A + 1 + 1) ((bytesN 32 (((leN l : Int) - leN m) % pP).toNat).map bval) rfl rfl _ _ (bl_blk H3.out B4) (by rw [List.length_map, bytesN_length]; rfl) HI3.out (bval_one _) ?_
  intro w5 hb5 hg5
  refine hK.out _ _ ⟨((bl_blk H1.out B4).grown hg5 (by simp; omega)).range, ((bl_blk H2.out B4).grown hg5 (by simp)).range⟩ (fun hHeld => ?_)
  clear hK K hHeld
  refine wpAnyH_done (by kernel_rfl) ?_ _
  go_wp2_with fail
  have HB5 := (H4.out.trans (B4.mono H4.out.size)).grown hg5 (Nat.le_trans H4.out.size B4.size) (fun r hr => by cases hr; omega)
  exact bodyPost_ret (v := numP (leN l - leN m)) (result_blk (by rfl) _ (A + 1 + 1) _ _ _ _ (by rfl) hb5 HU.out HI3.out) rfl ⟨rfl, HB5⟩

end Go.Proofs.Ytdjdalaghfknoaa

/- LadderLow walks to true. Laid by wip/gen/gladlow.py. Each theorem names its own conditions. -/
namespace Go.Proofs.Ytdjdalaghfknoaa
open Go.RowKit
set_option linter.unusedVariables false
set_option linter.unusedSimpArgs false


theorem low_shared {k u : List UInt8} (t : UInt8) (w : World) (hk : k.length = 32) (hu : u.length = 32) (h : ladB k (orB u t) = zer) : Calls Try.prog 11 #[.agg (k.map bval).toArray, .agg ((orB u t).map bval).toArray] w fun e w' => e = .returned (.tuple #[.agg (zer.map bval).toArray, .int .i64 21]) ∧ Below w.heap.size w w' := by
  have hh := LShared_num k (orB u t) w hk (orB_length t hu)
  unfold shErr at hh
  rw [h, if_pos rfl] at hh
  exact hh
theorem low_mul {k u : List UInt8} (t : UInt8) (w : World) (hk : k.length = 32) (hu : u.length = 32) (h : ladB k (orB u t) = zer) : Calls Try.prog 13 #[.agg (k.map bval).toArray, .agg ((orB u t).map bval).toArray] w fun e w' => e = .returned (.agg (zer.map bval).toArray) ∧ Below w.heap.size w w' := by
  have hh := LMul_num k (orB u t) w hk (orB_length t hu)
  rw [h] at hh
  exact hh
theorem or_val (a b : UInt8) (n : UInt8) : bits .or .u8 (a.toNat : Int) (bits .and .u8 (b.toNat : Int) (n.toNat : Int)) = ((a ||| b &&& n).toNat : Int) := by
  rw [u8_and, u8_or]
def minL : List UInt8 := bytesN 32 (((leN zer : Int) - (leN (smL 1) : Int)) % pP).toNat
theorem minL_length : minL.length = 32 := bytesN_length _ _
theorem low_sub (w : World) : Calls Try.prog 19 #[.agg (zer.map bval).toArray, .agg ((smL 1).map bval).toArray] w fun e w' => e = .returned (.agg (minL.map bval).toArray) ∧ Below w.heap.size w w' := rSub_num zer (smL 1) w zer_length (smL_length _)

theorem boxes1 (w : World) (ks : List Value) (T : TypeId) : Blk (w.alloc (.cells ks.toArray T)) w.heap.size ks T ∧ Ext w (w.alloc (.cells ks.toArray T)) := ⟨Blk.made w ks T, Ext.alloc w _⟩
theorem build_q (q : Int) (w : World) : (Instr.build 23 #[(0, .int .u8 q)]).run Try.prog w = .ok (.agg (Value.int .u8 q :: List.replicate 31 (.int .u8 0)).toArray) w := by
  simp [Instr.build, Try.zeroValue23]
  rfl
theorem cells_sm (q : UInt8) : (Value.int .u8 (q.toNat : Int) :: List.replicate 31 (.int .u8 0)) = (smL q).map bval := by
  simp [smL, bval]
theorem build_s (q : UInt8) (w : World) : (Instr.build 23 #[(0, .int .u8 (q.toNat : Int))]).run Try.prog w = .ok (.agg ((smL q).map bval).toArray) w := by
  rw [build_q, cells_sm]


set_option maxRecDepth 100000 in
set_option maxHeartbeats 16000000 in
theorem ladderLow_any (k : List UInt8) (n : Int) (t : UInt8) (w : World) (hk : k.length = 32) : Calls Try.prog 8 #[.agg (k.map bval).toArray, .int .i64 n, .int .u8 (t.toNat : Int)] w fun e w' => e = .returned (.bool true) ∧ Below w.heap.size w w' := by
  obtain ⟨t0, ht0⟩ : ∃ t0 : Int, t0 = (t.toNat : Int) := ⟨_, rfl⟩
  rw [← ht0]
  have HT := Lib.hid ht0
  clear ht0
  have HB := Lib.hid (boxes1 w (k.map bval) 23)
  have HKL := Lib.hid hk
  clear hk
  go_enter Try.func8, Try.ntmps8
  go_upto_region 1 with (fail)
  obtain ⟨H1, HE⟩ := HB.out
  change Code.wp _ _ _ _ (w.alloc (.cells (k.map bval).toArray 23))
  generalize w.alloc (.cells (k.map bval).toArray 23) = wa at *
  obtain ⟨A, hA⟩ : ∃ A, A = w.heap.size := ⟨_, rfl⟩
  have HAW : Hid (A = w.heap.size) := Lib.hid hA
  rw [← hA] at H1 ⊢
  have H1 := Lib.hid H1
  have HE : Hid (Ext w wa) := Lib.hid HE
  clear hA HB
  have HIK := Lib.hid (num_size HKL.out)
  go_wp2_with fail
  refine (alive_any12 wa).mono ?_
  rintro e wb ⟨rfl, hb⟩
  have H1 := Lib.hid (ext_blk H1.out hb)
  have HE := Lib.hid (HE.out.trans hb)
  clear hb
  have kbz := build_zer
  have kb1 := build_one
  have HZ := Lib.hid (Blk.made wb (ints .u8 (List.replicate 32 0)) 23)
  have HEA := Lib.hid (Ext.alloc wb (.cells (ints .u8 (List.replicate 32 0)).toArray 23))
  have HLZ : Hid ((zer.map bval).length = (ints .u8 (List.replicate 32 0)).length) := Lib.hid (by rw [List.length_map, ints_length, zer_length]; rfl)
  have HH2 := Lib.hid H1.out.lt
  go_upto_region 3 with (refine wpList_store_blk rfl _ _ _ rfl wb.heap.size (zer.map bval) rfl rfl _ _ HZ.out HLZ.out zer_size (bval_one _) ?_; intro wc hb2 hg2)
  have HX := Lib.hid (ext_grown HEA.out hg2 (Nat.le_refl _))
  have H1 := Lib.hid (ext_blk H1.out HX.out)
  have HE := Lib.hid (HE.out.trans HX.out)
  obtain ⟨D, hD⟩ : ∃ D, D = wb.heap.size := ⟨_, rfl⟩
  rw [← hD] at hb2 ⊢
  have HNE : Hid (A < D ∧ w.heap.size ≤ D ∧ A = w.heap.size) := Lib.hid (by have := HAW.out; have := HH2.out; omega)
  have HD := Lib.hid hb2
  clear hb2 hg2 HZ HEA HX hD HH2
  by_cases n0 : n = 0
  · subst n0
    have HLQ : Hid (zer.length = 32) := Lib.hid zer_length
    obtain ⟨l, hl⟩ : ∃ l, l = zer := ⟨_, rfl⟩
    have HL0 : Hid (ladB k (orB l t) = zer) := Lib.hid (by rw [hl]; exact lad_low t HKL.out HLQ.out low_zer.1 (Or.inl low_zer.2))
    have HLL : Hid (l.length = 32) := Lib.hid (by rw [hl]; exact HLQ.out)
    rw [← hl] at HD
    clear hl HLQ
    have HX1 : Hid ((l.map bval).set 31 (.int .u8 (bits .or .u8 ((l.getD 31 0).toNat : Int) (bits .and .u8 t0 128))) = (orB l t).map bval) := Lib.hid (by
      rw [HT.out, show (128 : Int) = ((128 : UInt8).toNat : Int) from rfl, or_val, u8_set]
      rfl)
    have HOL := Lib.hid (orB_length t HLL.out)
    have KS : Hid (∀ w, Calls Try.prog 11 #[.agg (k.map bval).toArray, .agg ((orB l t).map bval).toArray] w fun e w' => e = .returned (.tuple #[.agg (zer.map bval).toArray, .int .i64 21]) ∧ Below w.heap.size w w') := Lib.hid (fun w => low_shared t w HKL.out HLL.out HL0.out)
    have KM : Hid (∀ w, Calls Try.prog 13 #[.agg (k.map bval).toArray, .agg ((orB l t).map bval).toArray] w fun e w' => e = .returned (.agg (zer.map bval).toArray) ∧ Below w.heap.size w w') := Lib.hid (fun w => low_mul t w HKL.out HLL.out HL0.out)
    obtain ⟨o, ho⟩ : ∃ o, o = orB l t := ⟨_, rfl⟩
    rw [← ho] at HX1 HOL KS KM
    clear ho
    have HIO := Lib.hid (num_size HOL.out)
    have c1 := HD.out.cell 31
    rw [bval_get (by rw [HLL.out]; omega)] at c1
    have f1 := HD.out.free 31
    generalize ((l.getD 31 0).toNat : Int) = q1 at *
    go_upto_region 11 with (fail)
    have HM := Lib.hid (HD.out.set 31 (.int .u8 (bits .or .u8 q1 (bits .and .u8 t0 128))))
    rw [HX1.out] at HM
    have H1 := Lib.hid (H1.out.far (a := ⟨D, 31, none⟩) (by have := HNE.out; simp; omega) (.int .u8 (bits .or .u8 q1 (bits .and .u8 t0 128))))
    have HE := Lib.hid (Below.setCell HE.out (p := ⟨D, 31, none⟩) (by have := HNE.out; simp; omega) (.int .u8 (bits .or .u8 q1 (bits .and .u8 t0 128))))
    generalize bits .or .u8 q1 (bits .and .u8 t0 128) = v1 at *
    generalize wc.setCell ⟨D, 31, none⟩ (.int .u8 v1) = wd at *
    clear c1 f1 HX1 HD
    have HE : Hid (Ext w wd) := Lib.hid HE.out
    go_wp2_with (first | (refine wpList_load_blk rfl _ _ rfl A rfl _ _ _ _ H1.out Try.underlying23 HIK.out ?_) | (refine wpList_load_blk rfl _ _ rfl D rfl _ _ _ _ HM.out Try.underlying23 HIO.out ?_))
    refine (KS.out _).mono ?_
    rintro e we ⟨rfl, hb⟩
    have H1 := Lib.hid (ext_blk H1.out hb)
    have HM := Lib.hid (ext_blk HM.out hb)
    have HE := Lib.hid (HE.out.trans hb)
    clear hb
    have HZ := Lib.hid (Blk.made we (ints .u8 (List.replicate 32 0)) 23)
    have HEA := Lib.hid (Ext.alloc we (.cells (ints .u8 (List.replicate 32 0)).toArray 23))
    go_upto_region 12 with (refine wpList_store_blk rfl _ _ _ rfl we.heap.size (zer.map bval) rfl rfl _ _ HZ.out HLZ.out zer_size (bval_one _) ?_; intro wf hb2 hg2)
    have HX := Lib.hid (ext_grown HEA.out hg2 (Nat.le_refl _))
    have H1 := Lib.hid (ext_blk H1.out HX.out)
    have HM := Lib.hid (ext_blk HM.out HX.out)
    have HE := Lib.hid (HE.out.trans HX.out)
    generalize we.heap.size = G at *
    have HG := Lib.hid hb2
    clear hb2 hg2 HZ HEA HX
    go_wp2_with fail
    refine (num_any 21 wf).mono ?_
    rintro e w5 ⟨rfl, rfl⟩
    go_wp2_with (first | (refine wpList_eql (by rfl) _ _ _ _ _ _ 32 _ zer zer true rfl (Or.inl ⟨rfl, decide_eq_true rfl⟩) Try.underlying23 Try.underlying5 num_info num_cells num_guard rfl rfl zer_length zer_length ?_) | (refine wpList_load_w (by rfl) _ _ rfl G rfl _ _ _ _ HG.out Try.underlying23 zer_size ?_) | (refine wpList_load_w (by rfl) _ _ rfl A rfl _ _ _ _ H1.out Try.underlying23 HIK.out ?_) | (refine wpList_load_w (by rfl) _ _ rfl D rfl _ _ _ _ HM.out Try.underlying23 HIO.out ?_))
    refine (KM.out _).mono ?_
    rintro e w6 ⟨rfl, hb⟩
    have HE := Lib.hid (HE.out.trans hb)
    clear hb
    go_wp2_with (first | (refine wpList_eql (by rfl) _ _ _ _ _ _ 32 _ zer zer true rfl (Or.inl ⟨rfl, decide_eq_true rfl⟩) Try.underlying23 Try.underlying5 num_info num_cells num_guard rfl rfl zer_length zer_length ?_))
    go_ret
    exact ⟨rfl, HE.out⟩
  · by_cases n1 : n = 1
    · subst n1
      have HLS : Hid (((smL 1).map bval).length = (zer.map bval).length) := Lib.hid (by rw [List.length_map, List.length_map, zer_length]; exact smL_length _)
      have HIS : Hid ((Try.prog.info? 23).map (·.size) = some ((smL 1).map bval).length) := Lib.hid (num_size (smL_length _))
      go_upto_region 10 with (refine wpList_store_blk rfl _ _ _ rfl D ((smL 1).map bval) rfl rfl _ _ HD.out HLS.out HIS.out (bval_one _) ?_; intro wq hb2 hg2)
      have H1 := Lib.hid (H1.out.grown hg2 (by have := HNE.out; simp; omega))
      have HE := Lib.hid (ext_grown HE.out hg2 (by have := HNE.out; omega))
      have HD := Lib.hid hb2
      clear hb2 hg2 HLS HIS
      have HLQ : Hid ((smL 1).length = 32) := Lib.hid (smL_length _)
      obtain ⟨l, hl⟩ : ∃ l, l = (smL 1) := ⟨_, rfl⟩
      have HL0 : Hid (ladB k (orB l t) = zer) := Lib.hid (by rw [hl]; exact lad_low t HKL.out HLQ.out low_one.1 (Or.inr (Or.inl low_one.2)))
      have HLL : Hid (l.length = 32) := Lib.hid (by rw [hl]; exact HLQ.out)
      rw [← hl] at HD
      clear hl HLQ
      have HX1 : Hid ((l.map bval).set 31 (.int .u8 (bits .or .u8 ((l.getD 31 0).toNat : Int) (bits .and .u8 t0 128))) = (orB l t).map bval) := Lib.hid (by
        rw [HT.out, show (128 : Int) = ((128 : UInt8).toNat : Int) from rfl, or_val, u8_set]
        rfl)
      have HOL := Lib.hid (orB_length t HLL.out)
      have KS : Hid (∀ w, Calls Try.prog 11 #[.agg (k.map bval).toArray, .agg ((orB l t).map bval).toArray] w fun e w' => e = .returned (.tuple #[.agg (zer.map bval).toArray, .int .i64 21]) ∧ Below w.heap.size w w') := Lib.hid (fun w => low_shared t w HKL.out HLL.out HL0.out)
      have KM : Hid (∀ w, Calls Try.prog 13 #[.agg (k.map bval).toArray, .agg ((orB l t).map bval).toArray] w fun e w' => e = .returned (.agg (zer.map bval).toArray) ∧ Below w.heap.size w w') := Lib.hid (fun w => low_mul t w HKL.out HLL.out HL0.out)
      obtain ⟨o, ho⟩ : ∃ o, o = orB l t := ⟨_, rfl⟩
      rw [← ho] at HX1 HOL KS KM
      clear ho
      have HIO := Lib.hid (num_size HOL.out)
      have c1 := HD.out.cell 31
      rw [bval_get (by rw [HLL.out]; omega)] at c1
      have f1 := HD.out.free 31
      generalize ((l.getD 31 0).toNat : Int) = q1 at *
      go_upto_region 11 with (fail)
      have HM := Lib.hid (HD.out.set 31 (.int .u8 (bits .or .u8 q1 (bits .and .u8 t0 128))))
      rw [HX1.out] at HM
      have H1 := Lib.hid (H1.out.far (a := ⟨D, 31, none⟩) (by have := HNE.out; simp; omega) (.int .u8 (bits .or .u8 q1 (bits .and .u8 t0 128))))
      have HE := Lib.hid (Below.setCell HE.out (p := ⟨D, 31, none⟩) (by have := HNE.out; simp; omega) (.int .u8 (bits .or .u8 q1 (bits .and .u8 t0 128))))
      generalize bits .or .u8 q1 (bits .and .u8 t0 128) = v1 at *
      generalize wq.setCell ⟨D, 31, none⟩ (.int .u8 v1) = wd at *
      clear c1 f1 HX1 HD
      have HE : Hid (Ext w wd) := Lib.hid HE.out
      go_wp2_with (first | (refine wpList_load_blk rfl _ _ rfl A rfl _ _ _ _ H1.out Try.underlying23 HIK.out ?_) | (refine wpList_load_blk rfl _ _ rfl D rfl _ _ _ _ HM.out Try.underlying23 HIO.out ?_))
      refine (KS.out _).mono ?_
      rintro e we ⟨rfl, hb⟩
      have H1 := Lib.hid (ext_blk H1.out hb)
      have HM := Lib.hid (ext_blk HM.out hb)
      have HE := Lib.hid (HE.out.trans hb)
      clear hb
      have HZ := Lib.hid (Blk.made we (ints .u8 (List.replicate 32 0)) 23)
      have HEA := Lib.hid (Ext.alloc we (.cells (ints .u8 (List.replicate 32 0)).toArray 23))
      go_upto_region 12 with (refine wpList_store_blk rfl _ _ _ rfl we.heap.size (zer.map bval) rfl rfl _ _ HZ.out HLZ.out zer_size (bval_one _) ?_; intro wf hb2 hg2)
      have HX := Lib.hid (ext_grown HEA.out hg2 (Nat.le_refl _))
      have H1 := Lib.hid (ext_blk H1.out HX.out)
      have HM := Lib.hid (ext_blk HM.out HX.out)
      have HE := Lib.hid (HE.out.trans HX.out)
      generalize we.heap.size = G at *
      have HG := Lib.hid hb2
      clear hb2 hg2 HZ HEA HX
      go_wp2_with fail
      refine (num_any 21 wf).mono ?_
      rintro e w5 ⟨rfl, rfl⟩
      go_wp2_with (first | (refine wpList_eql (by rfl) _ _ _ _ _ _ 32 _ zer zer true rfl (Or.inl ⟨rfl, decide_eq_true rfl⟩) Try.underlying23 Try.underlying5 num_info num_cells num_guard rfl rfl zer_length zer_length ?_) | (refine wpList_load_w (by rfl) _ _ rfl G rfl _ _ _ _ HG.out Try.underlying23 zer_size ?_) | (refine wpList_load_w (by rfl) _ _ rfl A rfl _ _ _ _ H1.out Try.underlying23 HIK.out ?_) | (refine wpList_load_w (by rfl) _ _ rfl D rfl _ _ _ _ HM.out Try.underlying23 HIO.out ?_))
      refine (KM.out _).mono ?_
      rintro e w6 ⟨rfl, hb⟩
      have HE := Lib.hid (HE.out.trans hb)
      clear hb
      go_wp2_with (first | (refine wpList_eql (by rfl) _ _ _ _ _ _ 32 _ zer zer true rfl (Or.inl ⟨rfl, decide_eq_true rfl⟩) Try.underlying23 Try.underlying5 num_info num_cells num_guard rfl rfl zer_length zer_length ?_))
      go_ret
      exact ⟨rfl, HE.out⟩
    · by_cases n2 : n = 2
      · subst n2
        go_wp2_with fail
        refine (low_sub wc).mono ?_
        rintro e wx ⟨rfl, hb⟩
        have H1 := Lib.hid (ext_blk H1.out hb)
        have HD := Lib.hid (ext_blk HD.out hb)
        have HE := Lib.hid (HE.out.trans hb)
        clear hb
        have HLS : Hid ((minL.map bval).length = (zer.map bval).length) := Lib.hid (by rw [List.length_map, List.length_map, zer_length]; exact minL_length)
        have HIS : Hid ((Try.prog.info? 23).map (·.size) = some (minL.map bval).length) := Lib.hid (num_size (minL_length))
        go_upto_region 10 with (refine wpList_store_blk rfl _ _ _ rfl D (minL.map bval) rfl rfl _ _ HD.out HLS.out HIS.out (bval_one _) ?_; intro wq hb2 hg2)
        have H1 := Lib.hid (H1.out.grown hg2 (by have := HNE.out; simp; omega))
        have HE := Lib.hid (ext_grown HE.out hg2 (by have := HNE.out; omega))
        have HD := Lib.hid hb2
        clear hb2 hg2 HLS HIS
        have HLQ : Hid (minL.length = 32) := Lib.hid minL_length
        obtain ⟨l, hl⟩ : ∃ l, l = minL := ⟨_, rfl⟩
        have HL0 : Hid (ladB k (orB l t) = zer) := Lib.hid (by rw [hl]; exact lad_low t HKL.out HLQ.out low_minus.1 (Or.inr (Or.inr low_minus.2)))
        have HLL : Hid (l.length = 32) := Lib.hid (by rw [hl]; exact HLQ.out)
        rw [← hl] at HD
        clear hl HLQ
        have HX1 : Hid ((l.map bval).set 31 (.int .u8 (bits .or .u8 ((l.getD 31 0).toNat : Int) (bits .and .u8 t0 128))) = (orB l t).map bval) := Lib.hid (by
          rw [HT.out, show (128 : Int) = ((128 : UInt8).toNat : Int) from rfl, or_val, u8_set]
          rfl)
        have HOL := Lib.hid (orB_length t HLL.out)
        have KS : Hid (∀ w, Calls Try.prog 11 #[.agg (k.map bval).toArray, .agg ((orB l t).map bval).toArray] w fun e w' => e = .returned (.tuple #[.agg (zer.map bval).toArray, .int .i64 21]) ∧ Below w.heap.size w w') := Lib.hid (fun w => low_shared t w HKL.out HLL.out HL0.out)
        have KM : Hid (∀ w, Calls Try.prog 13 #[.agg (k.map bval).toArray, .agg ((orB l t).map bval).toArray] w fun e w' => e = .returned (.agg (zer.map bval).toArray) ∧ Below w.heap.size w w') := Lib.hid (fun w => low_mul t w HKL.out HLL.out HL0.out)
        obtain ⟨o, ho⟩ : ∃ o, o = orB l t := ⟨_, rfl⟩
        rw [← ho] at HX1 HOL KS KM
        clear ho
        have HIO := Lib.hid (num_size HOL.out)
        have c1 := HD.out.cell 31
        rw [bval_get (by rw [HLL.out]; omega)] at c1
        have f1 := HD.out.free 31
        generalize ((l.getD 31 0).toNat : Int) = q1 at *
        go_upto_region 11 with (fail)
        have HM := Lib.hid (HD.out.set 31 (.int .u8 (bits .or .u8 q1 (bits .and .u8 t0 128))))
        rw [HX1.out] at HM
        have H1 := Lib.hid (H1.out.far (a := ⟨D, 31, none⟩) (by have := HNE.out; simp; omega) (.int .u8 (bits .or .u8 q1 (bits .and .u8 t0 128))))
        have HE := Lib.hid (Below.setCell HE.out (p := ⟨D, 31, none⟩) (by have := HNE.out; simp; omega) (.int .u8 (bits .or .u8 q1 (bits .and .u8 t0 128))))
        generalize bits .or .u8 q1 (bits .and .u8 t0 128) = v1 at *
        generalize wq.setCell ⟨D, 31, none⟩ (.int .u8 v1) = wd at *
        clear c1 f1 HX1 HD
        have HE : Hid (Ext w wd) := Lib.hid HE.out
        go_wp2_with (first | (refine wpList_load_blk rfl _ _ rfl A rfl _ _ _ _ H1.out Try.underlying23 HIK.out ?_) | (refine wpList_load_blk rfl _ _ rfl D rfl _ _ _ _ HM.out Try.underlying23 HIO.out ?_))
        refine (KS.out _).mono ?_
        rintro e we ⟨rfl, hb⟩
        have H1 := Lib.hid (ext_blk H1.out hb)
        have HM := Lib.hid (ext_blk HM.out hb)
        have HE := Lib.hid (HE.out.trans hb)
        clear hb
        have HZ := Lib.hid (Blk.made we (ints .u8 (List.replicate 32 0)) 23)
        have HEA := Lib.hid (Ext.alloc we (.cells (ints .u8 (List.replicate 32 0)).toArray 23))
        go_upto_region 12 with (refine wpList_store_blk rfl _ _ _ rfl we.heap.size (zer.map bval) rfl rfl _ _ HZ.out HLZ.out zer_size (bval_one _) ?_; intro wf hb2 hg2)
        have HX := Lib.hid (ext_grown HEA.out hg2 (Nat.le_refl _))
        have H1 := Lib.hid (ext_blk H1.out HX.out)
        have HM := Lib.hid (ext_blk HM.out HX.out)
        have HE := Lib.hid (HE.out.trans HX.out)
        generalize we.heap.size = G at *
        have HG := Lib.hid hb2
        clear hb2 hg2 HZ HEA HX
        go_wp2_with fail
        refine (num_any 21 wf).mono ?_
        rintro e w5 ⟨rfl, rfl⟩
        go_wp2_with (first | (refine wpList_eql (by rfl) _ _ _ _ _ _ 32 _ zer zer true rfl (Or.inl ⟨rfl, decide_eq_true rfl⟩) Try.underlying23 Try.underlying5 num_info num_cells num_guard rfl rfl zer_length zer_length ?_) | (refine wpList_load_w (by rfl) _ _ rfl G rfl _ _ _ _ HG.out Try.underlying23 zer_size ?_) | (refine wpList_load_w (by rfl) _ _ rfl A rfl _ _ _ _ H1.out Try.underlying23 HIK.out ?_) | (refine wpList_load_w (by rfl) _ _ rfl D rfl _ _ _ _ HM.out Try.underlying23 HIO.out ?_))
        refine (KM.out _).mono ?_
        rintro e w6 ⟨rfl, hb⟩
        have HE := Lib.hid (HE.out.trans hb)
        clear hb
        go_wp2_with (first | (refine wpList_eql (by rfl) _ _ _ _ _ _ 32 _ zer zer true rfl (Or.inl ⟨rfl, decide_eq_true rfl⟩) Try.underlying23 Try.underlying5 num_info num_cells num_guard rfl rfl zer_length zer_length ?_))
        go_ret
        exact ⟨rfl, HE.out⟩
      · go_wp2_with fail
        go_ret
        exact ⟨rfl, HE.out⟩

end Go.Proofs.Ytdjdalaghfknoaa

/- LadderCanon walks to true. Laid by wip/gen/gladlow.py. Each theorem names its own conditions. -/
namespace Go.Proofs.Ytdjdalaghfknoaa
open Go.RowKit
set_option linter.unusedVariables false
set_option linter.unusedSimpArgs false


theorem canB_zero (n : UInt8) : (Value.int .u8 ((237 + n).toNat : Int) :: List.replicate 31 (.int .u8 0)) = (canB n 0).map bval := by
  rw [cells_sm]
  rfl
theorem can_add {n : UInt8} (h : n.toNat ≤ 18) : (237 : Int) + (n.toNat : Int) = ((237 + n).toNat : Int) := by
  rw [UInt8.toNat_add]
  have : (237 : UInt8).toNat = 237 := rfl
  omega
theorem canV_set (n : UInt8) (j : Nat) (h : j < 31) : ((canB n j).map bval).set (1 + j) (.int .u8 255) = (canB n (j + 1)).map bval := by
  rw [Nat.add_comm 1 j, ← canB_set n j h, List.map_set]
  rfl
theorem canV_last (n : UInt8) : ((canB n 31).map bval).set 31 (.int .u8 127) = (canP n).map bval := by
  rw [← canB_last n, List.map_set]
  rfl

set_option maxRecDepth 100000 in
set_option maxHeartbeats 16000000 in
theorem ladderCanon_any (k : List UInt8) (n : UInt8) (w : World) (hk : k.length = 32) : Calls Try.prog 9 #[.agg (k.map bval).toArray, .int .u8 (n.toNat : Int)] w fun e w' => e = .returned (.bool true) ∧ Below w.heap.size w w' := by
  obtain ⟨n0, hn0⟩ : ∃ n0 : Int, n0 = (n.toNat : Int) := ⟨_, rfl⟩
  have hn1 : (0 : Int) ≤ n0 := by omega
  have hn2 : n0 < 256 := by have := n.toNat_lt; omega
  have kbs := build_s n
  rw [← hn0] at kbs ⊢
  have HN := Lib.hid hn0
  clear hn0
  have HB := Lib.hid (boxes1 w (k.map bval) 23)
  have HKL := Lib.hid hk
  clear hk
  go_enter Try.func9, Try.ntmps9
  go_upto_region 1 with (fail)
  obtain ⟨H1, HE⟩ := HB.out
  change Code.wp _ _ _ _ (w.alloc (.cells (k.map bval).toArray 23))
  generalize w.alloc (.cells (k.map bval).toArray 23) = wa at *
  obtain ⟨A, hA⟩ : ∃ A, A = w.heap.size := ⟨_, rfl⟩
  have HAW : Hid (A = w.heap.size) := Lib.hid hA
  rw [← hA] at H1 ⊢
  have H1 := Lib.hid H1
  have HE : Hid (Ext w wa) := Lib.hid HE
  clear hA HB
  have HIK := Lib.hid (num_size HKL.out)
  go_wp2_with fail
  refine (alive_any12 wa).mono ?_
  rintro e wb ⟨rfl, hb⟩
  have H1 := Lib.hid (ext_blk H1.out hb)
  have HE := Lib.hid (HE.out.trans hb)
  clear hb
  by_cases hb18 : 18 < n0
  · go_wp2_with fail
    go_ret
    exact ⟨rfl, HE.out⟩
  · have h18 : decide ((18 : Int) < n0) = false := decide_eq_false hb18
    have h18' : n0 ≤ 18 := by omega
    have HN18 : Hid (n.toNat ≤ 18) := Lib.hid (by have := HN.out; omega)
    obtain ⟨m0, hm0⟩ : ∃ m0 : Int, m0 = ((237 + n).toNat : Int) := ⟨_, rfl⟩
    have hadd : (237 : Int) + n0 = m0 := by rw [hm0, ← can_add HN18.out, HN.out]
    have hm1 : (0 : Int) ≤ m0 := by omega
    have hm2 : m0 < 256 := by omega
    have HCZ : Hid ((Value.int .u8 m0 :: List.replicate 31 (.int .u8 0)) = (canB n 0).map bval) := Lib.hid (by rw [hm0, canB_zero])
    have HCL := Lib.hid (canB_length n 0 (by omega))
    clear hb18
    have HM0 := Lib.hid hm0
    clear hm0
    have HZ := Lib.hid (Blk.made wb (ints .u8 (List.replicate 32 0)) 23)
    have HEA := Lib.hid (Ext.alloc wb (.cells (ints .u8 (List.replicate 32 0)).toArray 23))
    have HLZ : Hid ((Value.int .u8 m0 :: List.replicate 31 (.int .u8 0)).length = (ints .u8 (List.replicate 32 0)).length) := Lib.hid (by rw [HCZ.out, List.length_map, ints_length, HCL.out]; rfl)
    have HIZ : Hid ((Try.prog.info? 23).map (·.size) = some (Value.int .u8 m0 :: List.replicate 31 (.int .u8 0)).length) := Lib.hid (by rw [HCZ.out]; exact num_size HCL.out)
    have HOZ : Hid (∀ v ∈ (Value.int .u8 m0 :: List.replicate 31 (.int .u8 0)), v.oneCell' = true) := Lib.hid (by rw [HCZ.out]; exact bval_one _)
    go_upto_region 5 with (refine wpList_store_blk rfl _ _ _ rfl wb.heap.size (Value.int .u8 m0 :: List.replicate 31 (.int .u8 0)) rfl rfl _ _ HZ.out HLZ.out HIZ.out HOZ.out ?_; intro wc hb2 hg2)
    have HX := Lib.hid (ext_grown HEA.out hg2 (Nat.le_refl _))
    rw [HCZ.out] at hb2
    have HD0 := Lib.hid hb2
    obtain ⟨D, hD⟩ : ∃ D, D = wb.heap.size := ⟨_, rfl⟩
    rw [← hD] at HD0 ⊢
    have HDW := Lib.hid hD
    clear hb2 hg2 HZ HEA hD HLZ HIZ HOZ HCZ HCL
    go_wp2_with fail
    go_loopw [7] (fun iv wr => ∃ (j : Nat), j ≤ 31 ∧ iv = .int .i64 (1 + (j : Int)) ∧ Blk wr D ((canB n j).map bval) 23 ∧ Ext wb wr) (fun iv _ => 32 - (intOf iv).toNat)
    case atStart => exact ⟨0, by omega, rfl, HD0.out, HX.out⟩
    case round =>
      clear HD0 HX
      obtain ⟨j, hj, rfl, hbm, hbel⟩ := hrel
      have j0 : (0 : Int) ≤ (j : Int) := Int.natCast_nonneg _
      have HD := Lib.hid hbm
      have HX := Lib.hid hbel
      by_cases hlj : j < 31
      · have j1 : (1 : Int) + (j : Int) < 32 := by omega
        have j2 : (0 : Int) ≤ 1 + (j : Int) := by omega
        have jn : (1 + (j : Int)).toNat = 1 + j := by omega
        have HS1 := Lib.hid (canV_set n j hlj)
        obtain ⟨u6, c6⟩ : ∃ u, wr.cell? ⟨D, 1 + j, none⟩ = some u := ⟨_, by rw [hbm.cell, bval_get (by rw [canB_length n j hj]; omega)]⟩
        have f6 := hbm.free (1 + j)
        clear hbm hbel
        go_wp2_with fail
        go_roundw
        case rel => exact ⟨j + 1, by omega, by go_num, by rw [← HS1.out]; exact HD.out.set _ _, Below.setCell HX.out (by have := HDW.out; simp; omega) _⟩
        case measure => simp [intOf]; omega
      · have hj31 : j = 31 := by omega
        subst hj31
        rw [show (1 : Int) + ((31 : Nat) : Int) = 32 from rfl]
        obtain ⟨u6, c6⟩ : ∃ u, wr.cell? ⟨D, 31, none⟩ = some u := ⟨_, by rw [hbm.cell, bval_get (by rw [canB_length n 31 hj]; omega)]⟩
        have f6 := hbm.free 31
        have HS1 := Lib.hid (canV_last n)
        clear hbm hbel hj j0 hlj
        go_upto_region 10 with (fail)
        have HM := Lib.hid (HD.out.set 31 (.int .u8 127))
        rw [HS1.out] at HM
        have HX := Lib.hid (Below.setCell HX.out (p := ⟨D, 31, none⟩) (by have := HDW.out; simp; omega) (.int .u8 127))
        generalize wr.setCell ⟨D, 31, none⟩ (.int .u8 127) = wd at *
        clear c6 f6 HD HS1
        have H1 := Lib.hid (ext_blk H1.out HX.out)
        have HE := Lib.hid (HE.out.trans HX.out)
        have HPL := Lib.hid (canP_length n)
        have HSL := Lib.hid (smL_length n)
        obtain ⟨z, hz⟩ : ∃ z, z = ladB k (smL n) := ⟨_, rfl⟩
        have HZL : Hid (z.length = 32) := Lib.hid (by rw [hz]; exact ladB_length _ _)
        have K1 : Hid (∀ w, Calls Try.prog 13 #[.agg (k.map bval).toArray, .agg ((canP n).map bval).toArray] w fun e w' => e = .returned (.agg (z.map bval).toArray) ∧ Below w.heap.size w w') := Lib.hid (fun w => by rw [hz, ← lad_can k HN18.out]; exact LMul_num k (canP n) w HKL.out HPL.out)
        have K2 : Hid (∀ w, Calls Try.prog 13 #[.agg (k.map bval).toArray, .agg ((smL n).map bval).toArray] w fun e w' => e = .returned (.agg (z.map bval).toArray) ∧ Below w.heap.size w w') := Lib.hid (fun w => by rw [hz]; exact LMul_num k (smL n) w HKL.out HSL.out)
        clear hz
        have HIP := Lib.hid (num_size HPL.out)
        generalize canP n = cp at *
        have HKB := Lib.hid kbs
        clear kbs
        have B0 : Ext wd wd.drew := Ext.drew _
        refine wp_region_held_drew (S := fun w' => Ext wd w') (by kernel_rfl) B0 (fun hHeld => ?_)
        refine wpAnyH_take (i := 0) (v := .agg ((k).map bval).toArray) rfl (by kernel_rfl) (by kernel_rfl) (by kernel_rfl) (fun _ _ _ h => h) (yieldsIf_load_mid (by rfl) _ _ rfl A 0 rfl _ _ (fun w h => bl_range H1.out h) Try.underlying23 rfl HIK.out) hHeld ?_
        simp only [Act.put, List.getElem_toArray, List.getElem_cons_zero, List.getElem_cons_succ, List.setIfInBounds_toArray, List.set_cons_zero, List.set_cons_succ]
        refine wpAnyH_take (i := 1) (v := .agg ((cp).map bval).toArray) rfl (by kernel_rfl) (by kernel_rfl) (by kernel_rfl) (fun _ _ _ h => h) (yieldsIf_load_mid (by rfl) _ _ rfl D 0 rfl _ _ (fun w h => bl_range HM.out h) Try.underlying23 rfl HIP.out) hHeld ?_
        simp only [Act.put, List.getElem_toArray, List.getElem_cons_zero, List.getElem_cons_succ, List.setIfInBounds_toArray, List.set_cons_zero, List.set_cons_succ]
        refine wpAnyH_take (i := 3) (v := .agg ((k).map bval).toArray) rfl (by kernel_rfl) (by kernel_rfl) (by kernel_rfl) (fun _ _ _ h => h) (yieldsIf_load_mid (by rfl) _ _ rfl A 0 rfl _ _ (fun w h => bl_range H1.out h) Try.underlying23 rfl HIK.out) hHeld ?_
        simp only [Act.put, List.getElem_toArray, List.getElem_cons_zero, List.getElem_cons_succ, List.setIfInBounds_toArray, List.set_cons_zero, List.set_cons_succ]
        refine wpAnyH_take (i := 4) (v := .int .u8 n0) rfl (by kernel_rfl) (by kernel_rfl) (by kernel_rfl) (fun _ _ _ h => h) (yi_move _ (.int .u8 n0) (by rfl) rfl rfl) hHeld ?_
        simp only [Act.put, List.getElem_toArray, List.getElem_cons_zero, List.getElem_cons_succ, List.setIfInBounds_toArray, List.set_cons_zero, List.set_cons_succ]
        refine wpAnyH_take (i := 5) (v := .agg ((smL n).map bval).toArray) rfl (by kernel_rfl) (by kernel_rfl) (by kernel_rfl) (fun _ _ _ h => h) (yi_build _ _ _ _ HKB.out (by rfl) rfl (by simp [Act.eval])) hHeld ?_
        simp only [Act.put, List.getElem_toArray, List.getElem_cons_zero, List.getElem_cons_succ, List.setIfInBounds_toArray, List.set_cons_zero, List.set_cons_succ]
        refine wpAnyH_ready (rs := [2]) (by kernel_rfl) (by simp) (AllReadyH.cons rfl (fun K hK => ?_) AllReadyH.nil)
        go_simp
        refine (K1.out _).mono ?_
        rintro e m1 ⟨rfl, b1⟩
        have N1 : Ext wd m1 := B0.trans b1
        refine hK.out _ _ N1 (fun hHeld => ?_)
        clear hK K
        try simp only [Act.put, List.getElem_toArray, List.getElem_cons_zero, List.getElem_cons_succ, List.setIfInBounds_toArray, List.set_cons_zero, List.set_cons_succ]
        refine wpAnyH_ready (rs := [6]) (by kernel_rfl) (by simp) (AllReadyH.cons rfl (fun K hK => ?_) AllReadyH.nil)
        go_simp
        refine (K2.out _).mono ?_
        rintro e m2 ⟨rfl, b2⟩
        have N2 : Ext wd m2 := N1.trans b2
        refine hK.out _ _ N2 (fun hHeld => ?_)
        clear hK K
        try simp only [Act.put, List.getElem_toArray, List.getElem_cons_zero, List.getElem_cons_succ, List.setIfInBounds_toArray, List.set_cons_zero, List.set_cons_succ]
        refine wpAnyH_take (i := 7) (v := .bool true) rfl (by kernel_rfl) (by kernel_rfl) (by kernel_rfl) (fun _ _ _ h => h) (yi_eql _ _ _ _ _ 32 _ (z) (z) true (by rfl) rfl (decide_eq_true (rfl)) Try.underlying23 Try.underlying5 num_info num_cells num_guard rfl rfl (HZL.out) (HZL.out)) hHeld ?_
        simp only [Act.put, List.getElem_toArray, List.getElem_cons_zero, List.getElem_cons_succ, List.setIfInBounds_toArray, List.set_cons_zero, List.set_cons_succ]
        refine wpAnyH_ready (rs := [8]) (by kernel_rfl) (by simp) (AllReadyH.cons rfl (fun K hK => ?_) AllReadyH.nil)
        go_simp
        refine hK.out _ _ N2 (fun hHeld => ?_)
        clear hK K
        try simp only [Act.put, List.getElem_toArray, List.getElem_cons_zero, List.getElem_cons_succ, List.setIfInBounds_toArray, List.set_cons_zero, List.set_cons_succ]
        refine wpAnyH_done (by kernel_rfl) ?_ _
        go_wp2_with fail
        go_ret
        exact ⟨rfl, HE.out.trans N2⟩

end Go.Proofs.Ytdjdalaghfknoaa
