/- Texts that belong together, one behind the other; each says in its own first remark what it shows. -/
import Derived.Test.YtjnnhkodkbhbbaaRows
import Derived.Test.YtjnnhkodkbhbbaaRowKit
import Derived.WalkKit
import Derived.ProofKit
import Derived.Deep.Slices
import Derived.Laws.Cover2
import Derived.OpenShut
import Derived.Test.YtjnnhkodkbhbbaaDetTail
import Derived.Test.YtjnnhkodkbhbbaaDetBool
import Derived.Test.YtjnnhkodkbhbbaaDetEql
import Derived.Deep.RegionHeld
import Derived.Test.YtjnnhkodkbhbbaaRowMore
import Derived.Test.YtjnnhkodkbhbbaaArrKit
import Derived.Laws.Tables
import Derived.Test.YtjnnhkodkbhbbaaDetEnds
import Derived.Test.YtjnnhkodkbhbbaaNumKit
import Derived.Test.YtjnnhkodkbhbbaaMakeKit
import Derived.Test.YtjnnhkodkbhbbaaSigKit
import Derived.Test.YtjnnhkodkbhbbaaChaSpec
import Derived.Test.YtjnnhkodkbhbbaaPolSpec
import Derived.Test.YtjnnhkodkbhbbaaDetSteps
import Derived.Lib.SlBytesConst
import Derived.Test.YtjnnhkodkbhbbaaProg
import Derived.Test.YtjnnhkodkbhbbaaInfoKit
import Derived.Test.YtjnnhkodkbhbbaaFormKit
import Derived.Deep.RegionWith
import Derived.BigQuiet
import Derived.Test.YtjnnhkodkbhbbaaRefLittleK
import Derived.Test.YtjnnhkodkbhbbaaRefQuarter
import Derived.Test.YtjnnhkodkbhbbaaRefBlockK
import Derived.Laws.OwnMore
import Derived.Deep.Onto
import Derived.Test.YtjnnhkodkbhbbaaRefTurnK
import Derived.Test.YtjnnhkodkbhbbaaPolT
import Derived.Deep.CutRange
import Derived.Test.YtjnnhkodkbhbbaaPolEnd

/- A law whose every call returns true and leaves all that was there as it was holds as a row: one theorem for every law, whatever its parameters' types. No condition of its own. -/
namespace Go.Proofs.Ytjnnhkodkbhbbaa
open Go.ChangeShapes Go.WideShapes Go.ChangeAt Go.RowKit

theorem trodAll_len {H : Type} {enc : TypeId × Value → H} {P : Program} {w : World} {base : Nat} {sp : Nat → Bool} {held : Bool} :
    ∀ {ts : List TypeId} {vs : List Value} {ds : List (DataW H)} {ps : List MemPlace}, DataW.TrodAll enc P w base sp held ts vs ds ps → ds.length = ts.length
  | [], _, _, _, h => by
    obtain ⟨rfl, rfl, rfl⟩ := trodAll_nil h
    rfl
  | _ :: _, _, _, _, h => by
    obtain ⟨v, vs1, d, ds1, a, b, rfl, rfl, rfl, g1, g2⟩ := trodAll_cons h
    simp [trodAll_len g2]

theorem trodAll_stays {H : Type} {enc : TypeId × Value → H} {P : Program} (hl : laidOutB P = true) {W W' : World} {base : Nat} {sp' : Nat → Bool} :
    ∀ {ts : List TypeId} {vs : List Value} {ds : List (DataW H)} {ps : List MemPlace}, (ts.all fun t => P.readableRec t && decide (t < P.types.size)) = true →
    DataW.TrodAll enc P W base (fun _ => true) true ts vs ds ps → (∀ p ∈ ps, W.sameAt W' p) → (∀ p ∈ ps, sp' p.block = true) → DataW.TrodAll enc P W' base sp' true ts vs ds ps
  | [], _, _, _, _, h, _, _ => by
    obtain ⟨rfl, rfl, rfl⟩ := trodAll_nil h
    exact trodAll_mk0
  | t :: ts, _, _, _, hr, h, h1, h2 => by
    obtain ⟨v, vs1, d, ds1, a, b, rfl, rfl, rfl, g1, g2⟩ := trodAll_cons h
    rw [List.all_cons, Bool.and_eq_true, Bool.and_eq_true] at hr
    obtain ⟨⟨r1, r2⟩, r3⟩ := hr
    exact ⟨a, b, WideElems.Trod_stays hl r1 (of_decide_eq_true r2) g1 (fun p hp => h1 p (List.mem_append_left _ hp)) (fun p hp => h2 p (List.mem_append_left _ hp)),
      trodAll_stays hl r3 g2 (fun p hp => h1 p (List.mem_append_right _ hp)) (fun p hp => h2 p (List.mem_append_right _ hp)), rfl⟩

/-- What a law's walk owes: of whatever arguments that can be read, true, and nothing that was there has turned. -/
def LawWalk {H : Type} (enc : TypeId × Value → H) (P : Program) (f : FuncId) (ts : List TypeId) : Prop :=
  ∀ (W : World) (base : Nat) (args : Array Value) (ds : List (DataW H)) (ps : List MemPlace),
    (∀ (j : Nat) (t : TypeId) (v : Value), ts[j]? = some t → args[j]? = some v → Value.okWide P W .any base t v) →
    DataW.TrodAll enc P W 0 (fun _ => true) true ts args.toList ds ps → (∀ x ∈ ps, x.block < W.heap.size) → W.noneFrozen ps →
    Calls P f args W fun e w' => e = .returned (.bool true) ∧ Below W.heap.size W w'

theorem law_lift {H : Type} {enc : TypeId × Value → H} {C : Checked} {os : Os} {f : FuncId} {fn : Func} {s : ChangeSpec} {tb : TypeId}
    (own : ownKnob C.prog.godebug = none) (laid : laidOutB C.prog = true) (started : os.Started)
    (hinit : C.prog.inits.idxOf? f = none) (hf : C.prog.funcs[f]? = some fn) (hvars : s.vars = [])
    (hread : (fn.params.toList.all fun t => C.prog.readableRec t && decide (t < C.prog.types.size)) = true)
    (hres : fn.resultTypes = #[tb]) (hb : C.prog.underlying tb = some .bool)
    (hs : ∀ ds : List (DataW H), ds.length = fn.params.toList.length → (s.fn H ds).results = [.lit (.bool true)] ∧ (s.fn H ds).args = ds ∧ (s.fn H ds).vars = [])
    (hwit : ∃ (w : World) (tape : Tape) (i : Input), w.os = os ∧ World.Shaped C.prog (w.forCall tape i) ∧ i.vars = [] ∧ Input.okWide C.prog (w.forCall tape i) Reach.any w.heap.size f i ∧
      ChangeSpec.pre6 enc C.prog fn s [] false (w.forCall tape i).memory i.args ∧ ({} : Assume).holds C.prog (lone (Frame.enter C.prog f i.args CallKind.normal) [] (w.forCall tape i)))
    (walk : LawWalk enc C.prog f fn.params.toList) :
    ReturnsInHanded {} C os f .any (s.pre6 enc C.prog fn [] false) (s.post enc C.prog fn false true false false) := by
  refine returnsInHanded_of_change own started hinit hf hwit ?_
  intro W base args ds gs before hval hW _ _
  have hW' := hW
  have hlt := hW.lt
  obtain ⟨p, q, hA, hV, rfl, hfz, hnd⟩ := hW
  rw [hvars] at hV
  obtain ⟨rfl, rfl⟩ := trodVars_none hV
  rw [List.append_nil] at hlt hfz
  have hlen := trodAll_len hA
  obtain ⟨e1, e2, e3⟩ := hs ds hlen
  refine (walk W base args ds p (fun j t v hj hv => hval j t v (by rw [← Array.getElem?_toList]; exact hj) hv) hA hlt hfz).mono ?_
  rintro e w' ⟨rfl, hbel⟩
  refine ⟨_, rfl, ds, [], p ++ [], [], p, [], hW', ?_, ?_, ?_, ?_, ?_⟩
  · rw [List.append_nil, e1, hres]
    exact trodAll_mk1 (shut_bool hb _)
  · rw [List.append_nil, e2]
    exact trodAll_stays laid hread hA (fun x hx => hbel.same (hlt x hx)) (fun x hx => by simpa using hlt x hx)
  · rw [hvars, List.append_nil, e3]
    rfl
  · exact hbel.frame _
  · intro h
    cases h

section
variable {H : Type} {enc : TypeId × Value → H} {P : Program} {W : World} {sp : Nat → Bool}

/-- A slice of one-cell elements, opened out of its reading: the list of its elements; each reads by itself. -/
theorem row1_of_trod {t e : TypeId} {fuel : Nat} {v : Value} {y : DataW H × List MemPlace} (ht : P.underlying t = some (.slice e)) (hc : P.cellsOf e = 1)
    (hf : DataW.trod enc P W 0 (fun _ => true) true fuel t [v] = some y) :
    ∃ vs : List Value, Row1 W v vs ∧ ∀ x ∈ vs, ∃ n y, DataW.trod enc P W 0 (fun _ => true) true n e [x] = some y := by
  rcases Deep.open_slice1 ht hc hf with ⟨hcs, _⟩ | ⟨a1, len1, cap1, m, n, V, D, Pl, hcs, hb, hl, hm, hmm, _, hx⟩
  · obtain rfl : v = .slice none 0 0 := by simpa using hcs
    exact ⟨[], Row1.nil W, fun x hx => by cases hx⟩
  · obtain rfl : v = .slice (some a1) len1 cap1 := by simpa using hcs
    simp only [if_true] at hmm
    refine ⟨(List.range len1).map V, ⟨some a1, cap1, by simp, by simpa using hl, hm, (fun e => by cases e), fun hne => ?_⟩, ?_⟩
    · have h0 : 0 < len1 := by
        rcases Nat.eq_zero_or_pos len1 with h | h
        · subst h; exact absurd rfl hne
        · exact h
      obtain ⟨b, off, spot⟩ := a1
      have hspot : spot = none := by simpa [Addr.add] using World.cell?_spot ((hx 0 (by omega)).1)
      subst hspot
      refine ⟨b, off, rfl, ?_, fun i hi => ?_⟩
      · have := (hx 0 (by omega)).1
        exact World.block_lt_of_cell? W _ this
      · have hi' : i < len1 := by simpa using hi
        rw [← add_plain, (hx i (by omega)).1]
        simp [hi']
    · intro x hxm
      obtain ⟨i, hi, rfl⟩ := List.mem_map.1 hxm
      have hi' : i < len1 := by simpa using hi
      exact ⟨n, _, (hx i (by omega)).2⟩

/-- A slice of one-cell elements, opened: the list of its elements; each reads by itself. -/
theorem open_row1 {base0 : Nat} {r : Reach} {t e : TypeId} {v : Value} {d : DataW H} {ps : List MemPlace} (ht : P.underlying t = some (.slice e)) (hc : P.cellsOf e = 1)
    (hval : Value.okWide P W r base0 t v) (hd : DataW.Trod enc P W 0 (fun _ => true) true t v d ps) :
    ∃ vs : List Value, Row1 W v vs ∧ ∀ x ∈ vs, ∃ n y, DataW.trod enc P W 0 (fun _ => true) true n e [x] = some y := by
  obtain ⟨a, len, cap, rfl⟩ := okWide_slice ht hval
  obtain ⟨fuel, hf⟩ := hd
  exact row1_of_trod (y := (d, ps)) ht hc (by simpa [Value.cells] using hf)

theorem cell_float {e : TypeId} {k : FloatKind} (he : P.underlying e = some (.float k)) {n : Nat} {x : Value} {y : DataW H × List MemPlace}
    (h : DataW.trod enc P W 0 sp true n e [x] = some y) : ∃ b, x = .float k b ∧ (Lit.float k b).wf = true := by
  cases n with
  | zero => simp [DataW.trod] at h
  | succ n =>
    unfold DataW.trod at h
    rw [he] at h
    cases x <;> simp at h
    rename_i k' b
    obtain ⟨⟨rfl, h2⟩, _⟩ := h
    exact ⟨b, rfl, h2⟩

theorem cell_int {e : TypeId} {k : IntKind} (he : P.underlying e = some (.int k)) {n : Nat} {x : Value} {y : DataW H × List MemPlace}
    (h : DataW.trod enc P W 0 sp true n e [x] = some y) : ∃ b, x = .int k b ∧ (Lit.int k b).wf = true := by
  cases n with
  | zero => simp [DataW.trod] at h
  | succ n =>
    unfold DataW.trod at h
    rw [he] at h
    cases x <;> simp at h
    rename_i k' b
    obtain ⟨⟨rfl, h2⟩, _⟩ := h
    exact ⟨b, rfl, h2⟩

/-- What each element is, of all of them. -/
theorem list_of_all {α : Type} {f : α → Value} {p : α → Prop} : ∀ {vs : List Value}, (∀ x ∈ vs, ∃ a, x = f a ∧ p a) → ∃ l : List α, vs = l.map f ∧ ∀ a ∈ l, p a
  | [], _ => ⟨[], rfl, fun a h => by cases h⟩
  | v :: vs, h => by
    obtain ⟨a, rfl, ha⟩ := h v (List.mem_cons_self ..)
    obtain ⟨l, rfl, hl⟩ := list_of_all (fun x hx => h x (List.mem_cons_of_mem _ hx))
    exact ⟨a :: l, rfl, fun b hb => by
      rcases List.mem_cons.1 hb with rfl | hb
      · exact ha
      · exact hl b hb⟩

theorem open_floats {base0 : Nat} {r : Reach} {t e : TypeId} {v : Value} {d : DataW H} {ps : List MemPlace} {k : FloatKind} (ht : P.underlying t = some (.slice e)) (he : P.underlying e = some (.float k)) (hc : P.cellsOf e = 1)
    (hval : Value.okWide P W r base0 t v) (hd : DataW.Trod enc P W 0 (fun _ => true) true t v d ps) : ∃ zs : List Nat, Row1 W v (zs.map (.float k)) := by
  obtain ⟨vs, h1, h2⟩ := open_row1 ht hc hval hd
  obtain ⟨l, rfl, _⟩ := list_of_all (f := Value.float k) (p := fun _ => True) (fun x hx => by
    obtain ⟨n, y, h⟩ := h2 x hx
    obtain ⟨b, rfl, _⟩ := cell_float he h
    exact ⟨b, rfl, trivial⟩)
  exact ⟨l, h1⟩

theorem open_numbers {base0 : Nat} {r : Reach} {t e : TypeId} {v : Value} {d : DataW H} {ps : List MemPlace} {k : IntKind} (ht : P.underlying t = some (.slice e)) (he : P.underlying e = some (.int k)) (hc : P.cellsOf e = 1)
    (hval : Value.okWide P W r base0 t v) (hd : DataW.Trod enc P W 0 (fun _ => true) true t v d ps) : ∃ zs : List Int, Row1 W v (zs.map (.int k)) ∧ ∀ n ∈ zs, (Lit.int k n).wf = true := by
  obtain ⟨vs, h1, h2⟩ := open_row1 ht hc hval hd
  obtain ⟨l, rfl, hl⟩ := list_of_all (f := Value.int k) (p := fun n => (Lit.int k n).wf = true) (fun x hx => by
    obtain ⟨n, y, h⟩ := h2 x hx
    exact cell_int he h)
  exact ⟨l, h1, hl⟩

theorem bytes_of_trod {t e : TypeId} {fuel : Nat} {v : Value} {y : DataW H × List MemPlace} (ht : P.underlying t = some (.slice e)) (he : P.underlying e = some (.int .u8)) (hc : P.cellsOf e = 1)
    (hf : DataW.trod enc P W 0 (fun _ => true) true fuel t [v] = some y) : ∃ l : List UInt8, Row1 W v (l.map bval) := by
  obtain ⟨vs, h1, h2⟩ := row1_of_trod ht hc hf
  obtain ⟨l, rfl, _⟩ := list_of_all (f := bval) (p := fun _ => True) (fun x hx => by
    obtain ⟨n, y, h⟩ := h2 x hx
    obtain ⟨b, rfl, hw⟩ := cell_int he h
    have hb : 0 ≤ b ∧ b ≤ 255 := by simpa [Lit.wf, IntKind.min, IntKind.max, IntKind.signed, IntKind.bits] using hw
    refine ⟨UInt8.ofNat b.toNat, ?_, trivial⟩
    unfold bval
    congr 1
    rw [UInt8.toNat_ofNat']
    omega)
  exact ⟨l, h1⟩

/-- A slice of bytes, opened. -/
theorem open_bytes {base0 : Nat} {r : Reach} {t e : TypeId} {v : Value} {d : DataW H} {ps : List MemPlace} (ht : P.underlying t = some (.slice e)) (he : P.underlying e = some (.int .u8)) (hc : P.cellsOf e = 1)
    (hval : Value.okWide P W r base0 t v) (hd : DataW.Trod enc P W 0 (fun _ => true) true t v d ps) : ∃ l : List UInt8, Row1 W v (l.map bval) := by
  obtain ⟨a, len, cap, rfl⟩ := okWide_slice ht hval
  obtain ⟨fuel, hf⟩ := hd
  exact bytes_of_trod (y := (d, ps)) ht he hc (by simpa [Value.cells] using hf)

theorem lists_of_all {w : World} : ∀ {vs : List Value}, (∀ x ∈ vs, ∃ l : List UInt8, Row1 w x (l.map bval)) → ∃ ls : List (List UInt8), vs.length = ls.length ∧ ∀ (i : Nat) (x : Value) (l : List UInt8), vs[i]? = some x → ls[i]? = some l → Row1 w x (l.map bval)
  | [], _ => ⟨[], rfl, fun i x l hx => by simp at hx⟩
  | v :: vs, h => by
    obtain ⟨l, hl⟩ := h v (List.mem_cons_self ..)
    obtain ⟨ls, h1, h2⟩ := lists_of_all (fun x hx => h x (List.mem_cons_of_mem _ hx))
    refine ⟨l :: ls, by simp [h1], fun i x k hx hk => ?_⟩
    cases i with
    | zero =>
      simp at hx hk
      subst hx; subst hk
      exact hl
    | succ i => exact h2 i x k (by simpa using hx) (by simpa using hk)

/-- A slice of slices of bytes, opened. -/
theorem open_bytes2 {base0 : Nat} {r : Reach} {t q e : TypeId} {v : Value} {d : DataW H} {ps : List MemPlace} (ht : P.underlying t = some (.slice q)) (hq : P.underlying q = some (.slice e)) (he : P.underlying e = some (.int .u8)) (hcq : P.cellsOf q = 1) (hc : P.cellsOf e = 1)
    (hval : Value.okWide P W r base0 t v) (hd : DataW.Trod enc P W 0 (fun _ => true) true t v d ps) : ∃ ls : List (List UInt8), RowB W v ls := by
  obtain ⟨vs, h1, h2⟩ := open_row1 ht hcq hval hd
  obtain ⟨ls, h3, h4⟩ := lists_of_all (w := W) (vs := vs) (fun x hx => by
    obtain ⟨n, y, h⟩ := h2 x hx
    exact bytes_of_trod hq he hc h)
  exact ⟨ls, vs, h1, h3, h4⟩

/-- An array of one-cell elements, opened. -/
theorem open_array {base0 : Nat} {r : Reach} {t e : TypeId} {len : Nat} {v : Value} {d : DataW H} {ps : List MemPlace} (ht : P.underlying t = some (.array len e)) (hc : P.cellsOf e = 1) (hct : P.cellsOf t = len)
    (hval : Value.okWide P W r base0 t v) (hd : DataW.Trod enc P W 0 (fun _ => true) true t v d ps) :
    ∃ vs : List Value, v = .agg vs.toArray ∧ vs.length = len ∧ ∀ x ∈ vs, ∃ n y, DataW.trod enc P W 0 (fun _ => true) true n e [x] = some y := by
  simp only [Value.okWide, ht] at hval
  obtain ⟨cs, rfl, hsz, _⟩ := hval
  rw [hct] at hsz
  obtain ⟨fuel, hf⟩ := hd
  obtain ⟨xs, m, _, _, hl, hxl, hx⟩ := DataW.trod_array ht hf
  obtain ⟨l⟩ := cs
  refine ⟨l, rfl, by simpa using hsz, fun x hxm => ?_⟩
  obtain ⟨i, hi, rfl⟩ := List.getElem_of_mem hxm
  have hlen : l.length = len := by simpa using hsz
  have hi' : i < len := by omega
  have := hx i hi'
  rw [hc, Nat.mul_one] at this
  refine ⟨m, xs[i]'(by omega), ?_⟩
  rw [List.getElem?_eq_getElem (by omega)] at this
  rw [← this]
  congr 1
  show [l[i]] = (l.drop i).take 1
  rw [List.drop_eq_getElem_cons hi]
  rfl

theorem open_array_ints {base0 : Nat} {r : Reach} {t e : TypeId} {len : Nat} {k : IntKind} {v : Value} {d : DataW H} {ps : List MemPlace} (ht : P.underlying t = some (.array len e)) (he : P.underlying e = some (.int k)) (hc : P.cellsOf e = 1) (hct : P.cellsOf t = len)
    (hval : Value.okWide P W r base0 t v) (hd : DataW.Trod enc P W 0 (fun _ => true) true t v d ps) :
    ∃ zs : List Int, v = .agg (zs.map (Value.int k)).toArray ∧ zs.length = len ∧ ∀ n ∈ zs, (Lit.int k n).wf = true := by
  obtain ⟨vs, rfl, hl, h2⟩ := open_array ht hc hct hval hd
  obtain ⟨l, rfl, hw⟩ := list_of_all (f := Value.int k) (p := fun n => (Lit.int k n).wf = true) (fun x hx => by
    obtain ⟨n, y, h⟩ := h2 x hx
    exact cell_int he h)
  exact ⟨l, rfl, by simpa using hl, hw⟩
end

theorem law_own : ownKnob Try.prog.godebug = none := by kernel_rfl
theorem law_laid : laidOutB Try.prog = true := by kernel_rfl

end Go.Proofs.Ytjnnhkodkbhbbaa

/- Arguments that are numbers of 32 bytes, bytes, bools, opened. Each theorem names its own conditions. -/
namespace Go.Proofs.Ytjnnhkodkbhbbaa
open Go.ChangeShapes Go.WideShapes Go.ChangeAt Go.RowKit
set_option linter.unusedVariables false

section
variable {H : Type} {enc : TypeId × Value → H} {P : Program} {W : World}

theorem byte_of {b : Int} (h : (Lit.int .u8 b).wf = true) : ∃ n : UInt8, b = (n.toNat : Int) := by
  have hb : 0 ≤ b ∧ b ≤ 255 := by simpa [Lit.wf, IntKind.min, IntKind.max, IntKind.signed, IntKind.bits] using h
  refine ⟨UInt8.ofNat b.toNat, ?_⟩
  rw [UInt8.toNat_ofNat']
  omega
theorem bytes_of_ints : ∀ {zs : List Int}, (∀ n ∈ zs, (Lit.int .u8 n).wf = true) → ∃ l : List UInt8, zs.map (Value.int .u8) = l.map bval
  | [], _ => ⟨[], rfl⟩
  | z :: r, h => by
    obtain ⟨n, hn⟩ := byte_of (h z (List.mem_cons_self ..))
    obtain ⟨l, hl⟩ := bytes_of_ints (zs := r) (fun x hx => h x (List.mem_cons_of_mem _ hx))
    exact ⟨n :: l, by simp only [List.map_cons, hl, hn]; rfl⟩
/-- A number of 32 bytes. -/
theorem open_num {base0 : Nat} {r : Reach} {t e : TypeId} {v : Value} {d : DataW H} {ps : List MemPlace} (ht : P.underlying t = some (.array 32 e)) (he : P.underlying e = some (.int .u8)) (hc : P.cellsOf e = 1) (hct : P.cellsOf t = 32)
    (hval : Value.okWide P W r base0 t v) (hd : DataW.Trod enc P W 0 (fun _ => true) true t v d ps) : ∃ l : List UInt8, v = .agg (l.map bval).toArray ∧ l.length = 32 := by
  obtain ⟨zs, rfl, hl, hw⟩ := open_array_ints ht he hc hct hval hd
  obtain ⟨l, e⟩ := bytes_of_ints hw
  refine ⟨l, by rw [e], ?_⟩
  have := congrArg List.length e
  simpa [hl] using this.symm
/-- Bytes in an array of whatever length. -/
theorem open_numN {base0 : Nat} {r : Reach} {n : Nat} {t e : TypeId} {v : Value} {d : DataW H} {ps : List MemPlace} (ht : P.underlying t = some (.array n e)) (he : P.underlying e = some (.int .u8)) (hc : P.cellsOf e = 1) (hct : P.cellsOf t = n)
    (hval : Value.okWide P W r base0 t v) (hd : DataW.Trod enc P W 0 (fun _ => true) true t v d ps) : ∃ l : List UInt8, v = .agg (l.map bval).toArray ∧ l.length = n := by
  obtain ⟨zs, rfl, hl, hw⟩ := open_array_ints ht he hc hct hval hd
  obtain ⟨l, e⟩ := bytes_of_ints hw
  refine ⟨l, by rw [e], ?_⟩
  have := congrArg List.length e
  simpa [hl] using this.symm
theorem i64_both {n : Int} (h : (Lit.int .i64 n).wf = true) : -9223372036854775808 ≤ n ∧ n ≤ 9223372036854775807 := by simpa [Lit.wf, IntKind.min, IntKind.max, IntKind.signed, IntKind.bits] using h
theorem i64_lo {n : Int} (h : (Lit.int .i64 n).wf = true) : -9223372036854775808 ≤ n := (i64_both h).1
theorem i64_hi {n : Int} (h : (Lit.int .i64 n).wf = true) : n ≤ 9223372036854775807 := (i64_both h).2
/-- A byte. -/
theorem open_byte {base0 : Nat} {r : Reach} {t : TypeId} {v : Value} {d : DataW H} {ps : List MemPlace} (ht : P.underlying t = some (.int .u8))
    (hval : Value.okWide P W r base0 t v) (hd : DataW.Trod enc P W 0 (fun _ => true) true t v d ps) : ∃ n : UInt8, v = .int .u8 (n.toNat : Int) := by
  obtain ⟨z, rfl, _, _, hw⟩ := open_int ht hval hd
  obtain ⟨n, rfl⟩ := byte_of hw
  exact ⟨n, rfl⟩
end

end Go.Proofs.Ytjnnhkodkbhbbaa

/- Numbers from 0 to 2^31 - 1. No program. Each theorem names its own conditions. -/
namespace Go.Proofs.Ytjnnhkodkbhbbaa
set_option linter.unusedVariables false

/-- Is it a number from 0 to 2^31 - 1? -/
def smallB (n : Int) : Bool := decide (0 ≤ n) && decide (n ≤ 2147483647)
theorem smallB_of {n : Int} (h1 : 0 ≤ n) (h2 : n ≤ 2147483647) : smallB n = true := by
  unfold smallB
  rw [decide_eq_true h1, decide_eq_true h2]
  rfl
theorem smallB_lo {n : Int} (h : smallB n = true) : 0 ≤ n := by
  unfold smallB at h
  rw [Bool.and_eq_true, decide_eq_true_iff, decide_eq_true_iff] at h
  exact h.1
theorem smallB_hi {n : Int} (h : smallB n = true) : n ≤ 2147483647 := by
  unfold smallB at h
  rw [Bool.and_eq_true, decide_eq_true_iff, decide_eq_true_iff] at h
  exact h.2
theorem smallB_not {n : Int} (h : ¬ (0 ≤ n ∧ n ≤ 2147483647)) : smallB n = false := by
  cases hb : smallB n with
  | false => rfl
  | true => exact absurd ⟨smallB_lo hb, smallB_hi hb⟩ h

end Go.Proofs.Ytjnnhkodkbhbbaa

/- What may be taken first in a drawn region in which calls and new memory stand in a chain. Nothing here speaks of a program. Each theorem names its own conditions. -/
namespace Go.Proofs.Ytjnnhkodkbhbbaa
open Go.RowKit
set_option linter.unusedVariables false

section
variable {P : Program} {ops : Array Oper} {S : World → Prop}
theorem yi_val {o : Oper} {a : Act} (v : Value) (hw : Region.wanted o (yielded ops a.tmps) = true) (h : ∀ w, S w → (execOp a.eval o).run P w = .ok (.value v) w) : YieldsIf P ops S o v a := Or.inl ⟨hw, h⟩
theorem yi_skip {o : Oper} {a : Act} (hw : Region.wanted o (yielded ops a.tmps) = false) : YieldsIf P ops S o undef a := Or.inr ⟨hw, rfl⟩
theorem yi_move {o : Oper} {a : Act} (x : Operand) (v : Value) (hw : Region.wanted o (yielded ops a.tmps) = true) (ho : o.op = .move x) (hx : a.eval x = v) : YieldsIf P ops S o v a :=
  yi_val v hw (fun w _ => by unfold execOp; simp only [ho, hx, Sem.run_pure])
theorem yi_assign {o : Oper} {a : Act} (x : Operand) (v : Value) (hw : Region.wanted o (yielded ops a.tmps) = true) (ho : o.op = .assign x) (hx : a.eval x = v) : YieldsIf P ops S o v a :=
  yi_val v hw (fun w _ => by unfold execOp; simp only [ho, hx, Sem.run_pure])
theorem yi_pick {o : Oper} {a : Act} (c x y : Operand) (b : Bool) (v : Value) (hw : Region.wanted o (yielded ops a.tmps) = true) (ho : o.op = .pick c x y) (hc : a.eval c = .bool b) (hx : (if b then a.eval x else a.eval y) = v) : YieldsIf P ops S o v a :=
  yi_val v hw (fun w _ => by
    unfold execOp
    cases b <;> simp only [ho, hc, Bool.false_eq_true, if_false, if_true] at hx ⊢ <;> simp [asBool, hx])
theorem yi_eql {o : Oper} {a : Act} (ty rt e : TypeId) (x y : Operand) (n : Nat) (i : TypeInfo) (xs ys : List UInt8) (r : Bool) (hw : Region.wanted o (yielded ops a.tmps) = true) (ho : o.op = .binOp .eql ty x y rt) (hb : decide (xs = ys) = r)
    (hu : P.underlying ty = some (.array n e)) (he : P.underlying e = some (.int .u8)) (hi : P.info? e = some i) (hc : P.cellsOf e = 1) (hg : P.eqGuardType P.depth ty = false)
    (hx : a.eval x = .agg (xs.map bval).toArray) (hy : a.eval y = .agg (ys.map bval).toArray) (lx : xs.length = n) (ly : ys.length = n) : YieldsIf P ops S o (.bool r) a :=
  yi_val _ hw (fun w _ => by
    have h1 := run_equal_bytes hu he hi hc xs ys lx ly w
    rw [hb] at h1
    unfold execOp
    simp [ho, hx, hy, eqGuard, hg, binOp, h1])
/-- A slice, whose run is known. -/
theorem yi_slice {o : Oper} {a : Act} (t : TypeId) (x : Operand) (lo hi : Option Operand) (vx v : Value) (vlo vhi : Option Value) (hw : Region.wanted o (yielded ops a.tmps) = true) (ho : o.op = .slice t x lo hi none) (hx : a.eval x = vx) (hlo : lo.map a.eval = vlo) (hhi : hi.map a.eval = vhi)
    (h : ∀ w, (Instr.sliceAt t vx vlo vhi none).run P w = .ok v w) : YieldsIf P ops S o v a :=
  yi_val v hw (fun w _ => by
    unfold execOp
    simp only [ho, hx, hlo, hhi, Option.map_none, Sem.run_bind, h, Result.andThen_ok, Sem.run_pure])
theorem step_wp {o : Oper} {a : Act} {w : World} {K : Act → World → Prop} {Q : Exit → Act → World → Prop} {E : Prop} (hw : Region.wanted o (yielded ops a.tmps) = true) (h : Oper.wp P o a w K Q) : if Region.wanted o (yielded ops a.tmps) = true then Oper.wp P o a w K Q else E := by
  rw [if_pos hw]
  exact h
end

end Go.Proofs.Ytjnnhkodkbhbbaa

/- Further operations that may be taken first in a drawn region in which calls and new memory stand in a chain: lengths, texts of bytes, comparisons, not. Nothing here speaks of a program. Each theorem names its own conditions. -/
namespace Go.Proofs.Ytjnnhkodkbhbbaa
open Go.RowKit
set_option linter.unusedVariables false
set_option linter.unusedSimpArgs false

section
variable {P : Program} {ops : Array Oper} {S : World → Prop}
theorem yi_len {o : Oper} {a : Act} (x : Operand) (t e : TypeId) (ad : Option Addr) (n c : Nat) (ht : P.underlying t = some (.slice e)) (hw : Region.wanted o (yielded ops a.tmps) = true) (ho : o.op = .call { callee := .builtin .len, args := #[x], argTypes := #[t] }) (hx : a.eval x = .slice ad n c) : YieldsIf P ops S o (.int .i64 (n : Int)) a :=
  yi_val _ hw (fun w _ => by
    unfold execOp
    simp [ho, resolve, invoke, builtin, hx, Builtin.len_, run_underlying ht, goInt, Result.andThen])
theorem yi_not {o : Oper} {a : Act} (ty : TypeId) (x : Operand) (b : Bool) (hw : Region.wanted o (yielded ops a.tmps) = true) (ho : o.op = .unOp .not ty x) (hx : a.eval x = .bool b) : YieldsIf P ops S o (.bool !b) a :=
  yi_val _ hw (fun w _ => by
    unfold execOp
    simp [ho, hx, Op.unary, Result.andThen])
theorem yi_eqb {o : Oper} {a : Act} (ty rt : TypeId) (x y : Operand) (b c r : Bool) (hr : (b == c) = r) (hu : P.underlying ty = some .bool) (hw : Region.wanted o (yielded ops a.tmps) = true) (ho : o.op = .binOp .eql ty x y rt) (hx : a.eval x = .bool b) (hy : a.eval y = .bool c) : YieldsIf P ops S o (.bool r) a :=
  yi_val _ hw (fun w _ => by
    unfold execOp
    simp only [ho, hx, hy]
    simp [eqGuard, binOp, run_equal_bools hu, hr])
/-- A text of bytes, whose run is known. -/
theorem yi_conv {o : Oper} {a : Act} (s t : TypeId) (x : Operand) (vx v : Value) (hw : Region.wanted o (yielded ops a.tmps) = true) (ho : o.op = .convert s t x) (hx : a.eval x = vx) (h : ∀ w, S w → (convert s t vx).run P w = .ok v w) : YieldsIf P ops S o v a :=
  yi_val v hw (fun w hS => by
    unfold execOp
    simp only [ho, hx, Sem.run_bind, h w hS, Result.andThen_ok, Sem.run_pure])
theorem yi_eqi {o : Oper} {a : Act} (k : IntKind) (ty rt : TypeId) (x y : Operand) (b c : Int) (r : Bool) (hr : decide (b = c) = r) (hw : Region.wanted o (yielded ops a.tmps) = true) (ho : o.op = .binOp .eql ty x y rt) (hx : a.eval x = .int k b) (hy : a.eval y = .int k c) : YieldsIf P ops S o (.bool r) a :=
  yi_val _ hw (fun w _ => by
    subst hr
    unfold execOp
    simp only [ho, hx, hy]
    simp [eqGuard, binOp, Op.intCmp, Result.andThen]
    try rw [Bool.eq_iff_iff]; simp)
theorem yi_eqt {o : Oper} {a : Act} (ty rt : TypeId) (x y : Operand) (b c : List UInt8) (r : Bool) (hr : decide (b = c) = r) (hw : Region.wanted o (yielded ops a.tmps) = true) (ho : o.op = .binOp .eql ty x y rt) (hx : a.eval x = .string ⟨b.toArray⟩) (hy : a.eval y = .string ⟨c.toArray⟩) : YieldsIf P ops S o (.bool r) a :=
  yi_val _ hw (fun w _ => by
    subst hr
    unfold execOp
    simp only [ho, hx, hy]
    simp [eqGuard, binOp, Op.stringOp, Result.andThen]
    try rw [Bool.eq_iff_iff]; simp)
theorem yi_and {o : Oper} {a : Act} (k : IntKind) (ty rt : TypeId) (x y : Operand) (m n r : Int) (hr : bits .and k m n = r) (hw : Region.wanted o (yielded ops a.tmps) = true) (ho : o.op = .binOp .and ty x y rt) (hx : a.eval x = .int k m) (hy : a.eval y = .int k n) : YieldsIf P ops S o (.int k r) a :=
  yi_val _ hw (fun w _ => by rw [← hr]; unfold execOp bits; simp [ho, hx, hy, eqGuard, binOp, Op.intBits])
theorem yi_iconv {o : Oper} {a : Act} (src dst : TypeId) (x : Operand) (k k' : IntKind) (n r : Int) (hs : (P.underlying src).isSome = true) (hd : P.underlying dst = some (.int k')) (hr : k'.wrap n = r) (hw : Region.wanted o (yielded ops a.tmps) = true) (ho : o.op = .convert src dst x) (hx : a.eval x = .int k n) : YieldsIf P ops S o (.int k' r) a :=
  yi_val _ hw (fun w _ => by
    obtain ⟨u, hu⟩ := Option.isSome_iff_exists.1 hs
    have h : (convert src dst (.int k n)).run P w = .ok (.int k' r) w := by
      simp [convert, run_underlying hu, run_underlying hd, Conv.intToInt, hr]
    unfold execOp
    simp only [ho, hx, Sem.run_bind, h, Result.andThen_ok, Sem.run_pure])
theorem wp_alloc_d {o : Oper} {a : Act} {w : World} {K : Act → World → Prop} {Q : Exit → Act → World → Prop} (d : Option Nat) (ty : TypeId) (zs : List Value) (hd : o.dst = d) (ho : o.op = .alloc ty) (hz : ∀ w, (zeroValue ty).run P w = .ok (.agg zs.toArray) w)
    (h : K (a.put d (.pointer (some ⟨w.heap.size, 0, none⟩))) (w.alloc (.cells zs.toArray ty))) : o.wp P a w K Q := by
  subst hd
  unfold Oper.wp
  rw [run_alloc_zero ho hz]
  exact h
theorem wp_conv_d {o : Oper} {a : Act} {w : World} {K : Act → World → Prop} {Q : Exit → Act → World → Prop} (d : Option Nat) (s t : TypeId) (x : Operand) (vx v : Value) (w' : World) (hd : o.dst = d) (ho : o.op = .convert s t x) (hx : a.eval x = vx) (hr : (convert s t vx).run P w = .ok v w')
    (h : K (a.put d v) w') : o.wp P a w K Q := by
  subst hd
  unfold Oper.wp execOp
  simp only [ho, hx, Sem.run_bind, hr, Result.andThen_ok, Sem.run_pure]
  exact h
theorem yi_neqB {o : Oper} {a : Act} (ty rt e : TypeId) (x y : Operand) (n : Nat) (i : TypeInfo) (xs ys : List UInt8) (r : Bool) (hw : Region.wanted o (yielded ops a.tmps) = true) (ho : o.op = .binOp .neq ty x y rt) (hb : decide (xs = ys) = !r)
    (hu : P.underlying ty = some (.array n e)) (he : P.underlying e = some (.int .u8)) (hi : P.info? e = some i) (hc : P.cellsOf e = 1) (hg : P.eqGuardType P.depth ty = false)
    (hx : a.eval x = .agg (xs.map bval).toArray) (hy : a.eval y = .agg (ys.map bval).toArray) (lx : xs.length = n) (ly : ys.length = n) : YieldsIf P ops S o (.bool r) a :=
  yi_val _ hw (fun w _ => by
    have h1 := run_equal_bytes hu he hi hc xs ys lx ly w
    rw [hb] at h1
    unfold execOp
    simp [ho, hx, hy, eqGuard, hg, binOp, h1])
theorem yi_build {o : Oper} {a : Act} (ty : TypeId) (parts : Array (Nat × Operand)) (vs : Array (Nat × Value)) (v : Value) (hr : ∀ w, (Instr.build ty vs).run P w = .ok v w) (hw : Region.wanted o (yielded ops a.tmps) = true) (ho : o.op = .build ty parts) (hp : parts.map (fun (i, x) => (i, a.eval x)) = vs) : YieldsIf P ops S o v a :=
  yi_val _ hw (fun w _ => by
    subst hp
    unfold execOp
    simp only [ho, Sem.run_bind, hr, Result.andThen_ok, Sem.run_pure])
theorem wp_make_d {o : Oper} {a : Act} {w : World} {K : Act → World → Prop} {Q : Exit → Act → World → Prop} (d : Option Nat) (t : TypeId) (x y : Operand) (vx vy v : Value) (w' : World) (hd : o.dst = d) (ho : o.op = .makeSlice t x y) (hx : a.eval x = vx) (hy : a.eval y = vy) (hr : (Instr.makeSlice t vx vy).run P w = .ok v w')
    (h : K (a.put d v) w') : o.wp P a w K Q := by
  subst hd
  unfold Oper.wp execOp
  simp only [ho, hx, hy, Sem.run_bind, hr, Result.andThen_ok, Sem.run_pure]
  exact h
theorem yi_add {o : Oper} {a : Act} (k : IntKind) (ty rt : TypeId) (x y : Operand) (m n r : Int) (hr : k.wrap (m + n) = r) (hw : Region.wanted o (yielded ops a.tmps) = true) (ho : o.op = .binOp .add ty x y rt) (hx : a.eval x = .int k m) (hy : a.eval y = .int k n) : YieldsIf P ops S o (.int k r) a :=
  yi_val _ hw (fun w _ => by unfold execOp; simp [ho, hx, hy, eqGuard, binOp, Op.intArith, hr])
theorem yi_sub {o : Oper} {a : Act} (k : IntKind) (ty rt : TypeId) (x y : Operand) (m n r : Int) (hr : k.wrap (m - n) = r) (hw : Region.wanted o (yielded ops a.tmps) = true) (ho : o.op = .binOp .sub ty x y rt) (hx : a.eval x = .int k m) (hy : a.eval y = .int k n) : YieldsIf P ops S o (.int k r) a :=
  yi_val _ hw (fun w _ => by unfold execOp; simp [ho, hx, hy, eqGuard, binOp, Op.intArith, hr])
theorem yi_mul {o : Oper} {a : Act} (k : IntKind) (ty rt : TypeId) (x y : Operand) (m n r : Int) (hr : k.wrap (m * n) = r) (hw : Region.wanted o (yielded ops a.tmps) = true) (ho : o.op = .binOp .mul ty x y rt) (hx : a.eval x = .int k m) (hy : a.eval y = .int k n) : YieldsIf P ops S o (.int k r) a :=
  yi_val _ hw (fun w _ => by unfold execOp; simp [ho, hx, hy, eqGuard, binOp, Op.intArith, hr])
theorem yi_net {o : Oper} {a : Act} (ty rt : TypeId) (x y : Operand) (b c : List UInt8) (r : Bool) (hr : decide (b = c) = !r) (hw : Region.wanted o (yielded ops a.tmps) = true) (ho : o.op = .binOp .neq ty x y rt) (hx : a.eval x = .string ⟨b.toArray⟩) (hy : a.eval y = .string ⟨c.toArray⟩) : YieldsIf P ops S o (.bool r) a :=
  yi_val _ hw (fun w _ => by
    have hr2 : r = !decide (b = c) := by rw [hr, Bool.not_not]
    subst hr2
    unfold execOp
    simp only [ho, hx, hy]
    simp [eqGuard, binOp, Op.stringOp, Result.andThen]
    try rw [Bool.eq_iff_iff]; simp)
end

end Go.Proofs.Ytjnnhkodkbhbbaa

/- A struct of four arrays of sixteen integers: its fields' addresses, its parts, how it is built. Nothing here speaks of a program. Each theorem names its own conditions. -/
namespace Go.Proofs.Ytjnnhkodkbhbbaa
open Go.RowKit
set_option linter.unusedVariables false
set_option linter.unusedSimpArgs false

theorem fold_lay (off : Nat) (post : List Value) : ∀ (new mid pre : List Value) (k : Nat), new.length = mid.length → pre.length = off + k →
    (new.zipIdx k).foldl (fun (cs : Array Value) (x : Value × Nat) => cs.setIfInBounds (off + x.2) x.1) (pre ++ (mid ++ post)).toArray = (pre ++ (new ++ post)).toArray
  | [], mid, pre, k, h, hp => by
    obtain rfl : mid = [] := List.eq_nil_of_length_eq_zero (by simpa using h.symm)
    rfl
  | c :: new, [], pre, k, h, hp => by simp at h
  | c :: new, m :: mid, pre, k, h, hp => by
    rw [List.zipIdx_cons, List.foldl_cons]
    have e : (pre ++ (m :: mid ++ post)).toArray.setIfInBounds (off + k) c = ((pre ++ [c]) ++ (mid ++ post)).toArray := by
      rw [List.setIfInBounds_toArray, ← hp, List.set_append_right _ _ (Nat.le_refl _), Nat.sub_self]
      simp
    show (new.zipIdx (k + 1)).foldl _ ((pre ++ (m :: mid ++ post)).toArray.setIfInBounds (off + k) c) = _
    rw [e, fold_lay off post new mid (pre ++ [c]) (k + 1) (by simpa using h) (by simp [hp]; omega)]
    simp
theorem fill_lay {place : Nat → Option (Nat × Nat)} {i off n : Nat} {pre mid post new : List Value} {rest : List (Nat × Value)} (hp : place i = some (off, n)) (hl : pre.length = off) (hm : mid.length = n) (hn : new.length = n) :
    Instr.fill place (pre ++ (mid ++ post)).toArray ((i, .agg new.toArray) :: rest) = Instr.fill place (pre ++ (new ++ post)).toArray rest := by
  have e : (new.toArray.zipIdx.foldl (fun (cs : Array Value) (x : Value × Nat) => cs.setIfInBounds (off + x.2) x.1) (pre ++ (mid ++ post)).toArray) = (pre ++ (new ++ post)).toArray := by
    rw [← fold_lay off post new mid pre 0 (by rw [hn, hm]) (by rw [hl]; rfl), ← Array.foldl_toList, Array.toList_zipIdx]
  rw [Instr.fill, hp]
  have h1 : (Value.cells (.agg new.toArray)).size = n := by simpa [Value.cells] using hn
  have h2 : ¬ (off + n > (pre ++ (mid ++ post)).toArray.size) := by simp [hl, hm]
  simp only [h1]
  rw [if_neg (by simp [h2]; simp at h2; omega)]
  exact congrArg (fun z => Instr.fill place z rest) e
/-- Four parts of sixteen, over noughts. -/
theorem fill_four {place : Nat → Option (Nat × Nat)} (p0 : place 0 = some (0, 16)) (p1 : place 1 = some (16, 16)) (p2 : place 2 = some (32, 16)) (p3 : place 3 = some (48, 16)) (zero : Array Value) (hz : zero.size = 64) {a b c d : List Value} (ha : a.length = 16) (hb : b.length = 16) (hc : c.length = 16) (hd : d.length = 16) :
    Instr.fill place zero [(0, .agg a.toArray), (1, .agg b.toArray), (2, .agg c.toArray), (3, .agg d.toArray)] = some (a ++ (b ++ (c ++ d))).toArray := by
  obtain ⟨l, hl⟩ : ∃ l : List Value, zero = l.toArray ∧ l.length = 64 := ⟨zero.toList, by simp, by simpa using hz⟩
  obtain ⟨rfl, hl⟩ := hl
  have e0 : l = [] ++ (l.take 16 ++ ((l.drop 16).take 16 ++ ((l.drop 32).take 16 ++ l.drop 48))) := by
    rw [List.nil_append]
    have h3 : (l.drop 32).take 16 ++ l.drop 48 = l.drop 32 := by rw [show l.drop 48 = (l.drop 32).drop 16 by rw [List.drop_drop], List.take_append_drop]
    have h2 : (l.drop 16).take 16 ++ l.drop 32 = l.drop 16 := by rw [show l.drop 32 = (l.drop 16).drop 16 by rw [List.drop_drop], List.take_append_drop]
    rw [h3, h2, List.take_append_drop]
  have l0 : (l.take 16).length = 16 := by simp [hl]
  have l1 : ((l.drop 16).take 16).length = 16 := by simp [hl]
  have l2 : ((l.drop 32).take 16).length = 16 := by simp [hl]
  have l3 : (l.drop 48).length = 16 := by simp [hl]
  generalize l.take 16 = q0 at *
  generalize (l.drop 16).take 16 = q1 at *
  generalize (l.drop 32).take 16 = q2 at *
  generalize l.drop 48 = q3 at *
  rw [e0, fill_lay (off := 0) (n := 16) p0 rfl l0 ha]
  rw [show ([] : List Value) ++ (a ++ (q1 ++ (q2 ++ q3))) = a ++ (q1 ++ (q2 ++ q3)) from rfl, fill_lay (off := 16) (n := 16) p1 ha l1 hb]
  rw [show a ++ (b ++ (q2 ++ q3)) = (a ++ b) ++ (q2 ++ q3) by simp, fill_lay (off := 32) (n := 16) p2 (by simp [ha, hb]) l2 hc]
  rw [show (a ++ b) ++ (c ++ q3) = (a ++ b ++ c) ++ (q3 ++ []) by simp, fill_lay (off := 48) (n := 16) p3 (by simp [ha, hb, hc]) l3 hd]
  rw [Instr.fill]
  simp
theorem rng_mid {w : World} {c : Nat} {t : TypeId} {pre mid post : List Value} (h : Blk w c (pre ++ (mid ++ post)) t) {o : Nat} (ho : pre.length = o) : w.rangeAt c o mid := fun j v hj => by
  subst ho
  have hjl : j < mid.length := by
    rcases Nat.lt_or_ge j mid.length with h' | h'
    · exact h'
    · rw [List.getElem?_eq_none h'] at hj; cases hj
  rw [h.cell, List.getElem?_append_right (by omega), Nat.add_sub_cancel_left, List.getElem?_append_left hjl]
  exact hj
theorem boxes_one (w : World) (ks : List Value) (T : TypeId) : Blk (w.alloc (.cells ks.toArray T)) w.heap.size ks T ∧ Ext w (w.alloc (.cells ks.toArray T)) := ⟨Blk.made w ks T, Ext.alloc w _⟩
/-- A value is built, in a plain region. -/
theorem wpList_build {P : Program} {w : World} {ops : Array Oper} {rest : List Oper} {o : Oper} {a : Act} {Q : Exit → Act → World → Prop} (hgd : o.guard = none) (ty : TypeId) (parts : Array (Nat × Operand)) (ho : o.op = .build ty parts)
    (vs : Array (Nat × Value)) (hp : parts.map (fun (i, x) => (i, a.eval x)) = vs) (v : Value) (hr : (Instr.build ty vs).run P w = .ok v w) (h : wpList P ops Q rest (a.put o.dst v) w) : wpList P ops Q (o :: rest) a w :=
  wpList_plain hgd fun _ hK => by
    subst hp
    unfold Oper.wp execOp
    simp only [ho, Sem.run_bind, hr, Result.andThen_ok, Sem.run_pure]
    exact hK _ _ h

end Go.Proofs.Ytjnnhkodkbhbbaa

/- In a drawn region's one walk: the load of a part of a block, the address of a part's part, a struct that is built; blocks of two parts. Nothing here speaks of a program. Each theorem names its own conditions. -/
namespace Go.Proofs.Ytjnnhkodkbhbbaa
open Go.RowKit
set_option linter.unusedVariables false
set_option linter.unusedSimpArgs false

section
variable {P : Program} {ops : Array Oper} {Q : Exit → Act → World → Prop} {md : Region.Mode} {t : Nat} {C : World → Prop} {D : Act → Prop}
/-- The load of a part of a block. -/
theorem det_loadk {o : Oper} {rest : List Oper} {a : Act} (ty : TypeId) (x : Operand) (c k : Nat) (cs : List Value) (d : TypeDesc) (hw : Region.wanted o (yielded ops a.tmps) = true) (ho : o.op = .load ty x)
    (hx : a.eval x = .pointer (some ⟨c, k, none⟩)) (hC : ∀ w, C w → w.rangeAt c k cs) (hu : P.underlying ty = some d) (hd : d.isRow = true) (hi : (P.info? ty).map (·.size) = some cs.length)
    (next : wpDet P ops C D rest (a.put o.dst (.agg cs.toArray))) : wpDet P ops C D (o :: rest) a := by
  rcases yieldsIf_load_mid (S := C) hw ty x ho c k hx cs d hC hu hd hi with ⟨_, h⟩ | ⟨h, _⟩
  · exact det_val _ hw h next
  · rw [hw] at h; cases h
/-- A part's part. -/
theorem det_fieldk {o : Oper} {rest : List Oper} {a : Act} (ty : TypeId) (x : Operand) (c f i j : Nat) (hw : Region.wanted o (yielded ops a.tmps) = true) (ho : o.op = .fieldAddr ty x f) (hx : a.eval x = .pointer (some ⟨c, i, none⟩))
    (hr : ∀ w, (Instr.fieldAt ty (.pointer (some ⟨c, i, none⟩)) f).run P w = .ok (.pointer (some ⟨c, j, none⟩)) w)
    (next : wpDet P ops C D rest (a.put o.dst (.pointer (some ⟨c, j, none⟩)))) : wpDet P ops C D (o :: rest) a :=
  det_val _ hw (fun w _ => by unfold execOp; simp only [ho, hx, Sem.run_bind, hr, Result.andThen_ok, Sem.run_pure]) next
/-- A value is built. -/
theorem det_build {o : Oper} {rest : List Oper} {a : Act} (ty : TypeId) (parts : Array (Nat × Operand)) (vs : Array (Nat × Value)) (v : Value) (hw : Region.wanted o (yielded ops a.tmps) = true) (ho : o.op = .build ty parts)
    (hp : parts.map (fun (i, x) => (i, a.eval x)) = vs) (hr : ∀ w, (Instr.build ty vs).run P w = .ok v w)
    (next : wpDet P ops C D rest (a.put o.dst v)) : wpDet P ops C D (o :: rest) a :=
  det_val v hw (fun w _ => by
    subst hp
    unfold execOp
    simp only [ho, Sem.run_bind, hr, Result.andThen_ok, Sem.run_pure]) next
theorem det_quo {o : Oper} {rest : List Oper} {a : Act} (ty rt : TypeId) (x y : Operand) (m n : Nat) (hw : Region.wanted o (yielded ops a.tmps) = true) (ho : o.op = .binOp .quo ty x y rt) (hx : a.eval x = .int .i64 (m : Int)) (hy : a.eval y = .int .i64 (n : Int)) (hn : 0 < n) (hm : m < 2 ^ 31)
    (next : wpDet P ops C D rest (a.put o.dst (.int .i64 ((m / n : Nat) : Int)))) : wpDet P ops C D (o :: rest) a :=
  det_val _ hw (fun w _ => by
    have h1 : (n : Int) ≠ 0 := by omega
    have h2 : (m : Int).tdiv n = ((m / n : Nat) : Int) := by rw [Int.tdiv_eq_ediv_of_nonneg (by omega)]; rfl
    have h4 : m / n ≤ m := Nat.div_le_self _ _
    have h3 : IntKind.i64.wrap ((m / n : Nat) : Int) = ((m / n : Nat) : Int) := by
      rw [IntKind.wrap_i64]
      generalize m / n = q at *
      omega
    unfold execOp
    simp only [ho, hx, hy]
    simp [eqGuard, binOp, Op.intDiv, h1, Result.andThen]
    rw [show ((m : Int) / (n : Int)) = ((m / n : Nat) : Int) from rfl, h3, if_neg (show ¬ n = 0 by omega)]) next
theorem det_rem {o : Oper} {rest : List Oper} {a : Act} (ty rt : TypeId) (x y : Operand) (m n : Nat) (hw : Region.wanted o (yielded ops a.tmps) = true) (ho : o.op = .binOp .rem ty x y rt) (hx : a.eval x = .int .i64 (m : Int)) (hy : a.eval y = .int .i64 (n : Int)) (hn : 0 < n) (hm : m < 2 ^ 31)
    (next : wpDet P ops C D rest (a.put o.dst (.int .i64 ((m % n : Nat) : Int)))) : wpDet P ops C D (o :: rest) a :=
  det_val _ hw (fun w _ => by
    have h1 : (n : Int) ≠ 0 := by omega
    unfold execOp
    simp only [ho, hx, hy]
    simp [eqGuard, binOp, Op.intDiv, h1, Result.andThen]
    rw [if_neg (show ¬ n = 0 by omega)]
    simp [Int.tmod_eq_emod_of_nonneg (show (0 : Int) ≤ (m : Int) by omega)]) next
theorem det_shrn {o : Oper} {rest : List Oper} {a : Act} (k : IntKind) (ty rt : TypeId) (x y : Operand) (m n : Nat) (hw : Region.wanted o (yielded ops a.tmps) = true) (ho : o.op = .binOp .shr ty x y rt) (hx : a.eval x = .int k (m : Int)) (hy : a.eval y = .int .i64 (n : Int)) (hn : n ≤ k.bits)
    (next : wpDet P ops C D rest (a.put o.dst (.int k ((m / 2 ^ n : Nat) : Int)))) : wpDet P ops C D (o :: rest) a :=
  det_val _ hw (fun w _ => by
    unfold execOp
    simp only [ho, hx, hy]
    simp [eqGuard, binOp, Op.shift, Result.andThen]
    rw [if_neg (show ¬ (n : Int) < 0 by omega), Nat.min_eq_left hn, Int.fdiv_eq_ediv_of_nonneg _ (by exact_mod_cast Nat.zero_le (2 ^ n))]) next
theorem det_eqi {o : Oper} {rest : List Oper} {a : Act} (k : IntKind) (ty rt : TypeId) (x y : Operand) (b c : Int) (r : Bool) (hw : Region.wanted o (yielded ops a.tmps) = true) (ho : o.op = .binOp .eql ty x y rt) (hx : a.eval x = .int k b) (hy : a.eval y = .int k c) (hr : decide (b = c) = r)
    (next : wpDet P ops C D rest (a.put o.dst (.bool r))) : wpDet P ops C D (o :: rest) a :=
  det_val _ hw (fun w _ => by
    subst hr
    unfold execOp
    simp only [ho, hx, hy]
    simp [eqGuard, binOp, Op.intCmp, Result.andThen]
    try rw [Bool.eq_iff_iff]; simp) next
end

/-- Two parts, over noughts. -/
theorem fill_pair {place : Nat → Option (Nat × Nat)} {m n : Nat} (p0 : place 0 = some (0, m)) (p1 : place 1 = some (m, n)) (zero : Array Value) (hz : zero.size = m + n) {a b : List Value} (ha : a.length = m) (hb : b.length = n) :
    Instr.fill place zero [(0, .agg a.toArray), (1, .agg b.toArray)] = some (a ++ b).toArray := by
  obtain ⟨l, hl⟩ : ∃ l : List Value, zero = l.toArray ∧ l.length = m + n := ⟨zero.toList, by simp, by simpa using hz⟩
  obtain ⟨rfl, hl⟩ := hl
  have e0 : l = [] ++ (l.take m ++ l.drop m) := by simp
  have l0 : (l.take m).length = m := by simp [hl]
  have l1 : (l.drop m).length = n := by simp [hl]
  generalize l.take m = q0 at *
  generalize l.drop m = q1 at *
  rw [e0, fill_lay (off := 0) (n := m) p0 rfl l0 ha]
  rw [show ([] : List Value) ++ (a ++ q1) = a ++ (q1 ++ []) by simp, fill_lay (off := m) (n := n) p1 ha l1 hb]
  rw [Instr.fill]
  simp
/-- The first part alone, over noughts. -/
theorem fill_first {place : Nat → Option (Nat × Nat)} {m : Nat} (p0 : place 0 = some (0, m)) (z0 z1 : List Value) (hz : z0.length = m) {a : List Value} (ha : a.length = m) :
    Instr.fill place (z0 ++ z1).toArray [(0, .agg a.toArray)] = some (a ++ z1).toArray := by
  have e := fill_lay (place := place) (i := 0) (off := 0) (n := m) (pre := []) (mid := z0) (post := z1) (rest := []) p0 rfl hz ha
  rw [List.nil_append, List.nil_append] at e
  rw [e, Instr.fill]
theorem rng_lo {w : World} {c o : Nat} {a b : List Value} (h : w.rangeAt c o (a ++ b)) : w.rangeAt c o a := fun j v hj => by
  have hjl : j < a.length := by
    rcases Nat.lt_or_ge j a.length with h' | h'
    · exact h'
    · rw [List.getElem?_eq_none h'] at hj; cases hj
  exact h j v (by rw [List.getElem?_append_left hjl]; exact hj)
theorem rng_hi {w : World} {c o m k : Nat} {a b : List Value} (h : w.rangeAt c o (a ++ b)) (hm : a.length = m) (hk : o + m = k) : w.rangeAt c k b := fun j v hj => by
  have e := h (m + j) v (by rw [List.getElem?_append_right (by omega), ← hm, Nat.add_sub_cancel_left]; exact hj)
  rw [← Nat.add_assoc, hk] at e
  exact e

end Go.Proofs.Ytjnnhkodkbhbbaa

/- Noughts, and parts of a variable. Each theorem names its own conditions. -/
namespace Go.Proofs.Ytjnnhkodkbhbbaa
open Go.RowKit
set_option linter.unusedVariables false
set_option linter.unusedSimpArgs false

def z32 : List UInt8 := List.replicate 32 0
def z64 : List UInt8 := List.replicate 64 0
theorem z32_length : z32.length = 32 := by simp [z32]
theorem z64_length : z64.length = 64 := by simp [z64]
theorem rng_ext {w w' : World} {b o : Nat} {cs : List Value} (h : w.rangeAt b o cs) (hb : Ext w w') : w'.rangeAt b o cs := fun j v hj => (hb.cell (World.block_lt_of_cell? w _ (h j v hj))).trans (h j v hj)
/-- a[:] of an array that is a part of a variable. -/
theorem cut_part {P : Program} {t : TypeId} {n : Nat} {e : TypeId} (ht : P.underlying t = some (.array n e)) (h : ∀ w, (sizeOf e).run P w = .ok 1 w) (hn : 0 < n) (A o : Nat) (w : World) :
    (Instr.sliceAt t (.pointer (some ⟨A, o, none⟩)) none none none).run P w = .ok (.slice (some ⟨A, o, none⟩) n n) w := by
  have e1 : P.arrayLen t = n := by unfold Program.arrayLen; rw [ht]
  have e2 : P.elem t = e := by unfold Program.elem; rw [ht]
  rw [run_sliceAt_array_all w t ⟨A, o, none⟩ (by rw [e1, e2]; exact ht), e2, h, e1]
  simp [slicedAt, Addr.add, show ¬ n = 0 by omega]
theorem row_rng {w : World} {c o n : Nat} {cs : List Value} (h : w.rangeAt c o cs) (hc : c < w.heap.size) (hn : cs.length = n) (hm : n ≤ maxLen) : Row1 w (.slice (some ⟨c, o, none⟩) n n) cs := by
  subst hn
  exact ⟨_, _, rfl, Nat.le_refl _, hm, (fun e => by cases e), fun _ => ⟨c, o, rfl, hc, fun i hi => by
    rw [List.getElem?_eq_getElem hi]
    exact h i _ (List.getElem?_eq_getElem hi)⟩⟩
theorem res_twoP {P : Program} {fn : Func} {i j : Nat} (hf : fn.results = #[.tmp i, .tmp j]) (tmps : Array Value) (w : World) :
    (results fn tmps).run P w = .ok (.tuple #[tmps.getD i undef, tmps.getD j undef]) w := by
  unfold results
  rw [hf]
  simp
/-! What Sign, Stop, PackStop answer -/
theorem one_u8m : (Try.prog.info? 5).map (·.size) = some 1 := by kernel_rfl
theorem rows_info : ∃ i : TypeInfo, Try.prog.info? 22 = some i ∧ i.zero = some (.slice none 0 0) ∧ i.size = 1 ∧ i.bytes = 24 := by
  have h : (Try.prog.info? 22).map (fun i => (i.zero, i.size, i.bytes)) = some (some (.slice none 0 0), 1, 24) := by kernel_rfl
  cases h2 : Try.prog.info? 22 with
  | none => rw [h2] at h; cases h
  | some i =>
    rw [h2] at h
    injection h with h
    injection h with e1 e2
    injection e2 with e2 e3
    exact ⟨i, rfl, e1, e2, e3⟩
theorem laid_mid {pre mid post new : List Value} (h : new.length = mid.length) : laid (pre ++ (mid ++ post)) pre.length new = pre ++ (new ++ post) := by
  apply List.ext_getElem?
  intro i
  rw [laid_get _ _ _ (by simp only [List.length_append]; omega)]
  by_cases h1 : i < pre.length
  · rw [if_neg (by omega), List.getElem?_append_left h1, List.getElem?_append_left h1]
  · by_cases h2 : i < pre.length + new.length
    · rw [if_pos ⟨by omega, h2⟩, List.getElem?_append_right (by omega), List.getElem?_append_left (by omega)]
    · rw [if_neg (by omega), List.getElem?_append_right (by omega), List.getElem?_append_right (by omega), List.getElem?_append_right (by omega), List.getElem?_append_right (by omega), h]
theorem splice_mid {pre mid post new : List Value} (h : new.length = mid.length) : splice (pre ++ (mid ++ post)) pre.length new = pre ++ (new ++ post) := by
  unfold splice
  rw [List.take_left, ← List.drop_drop, List.drop_left, h, List.drop_left]
theorem splice_nil (cs : List Value) (o : Nat) : splice cs o [] = cs := by
  unfold splice
  rw [List.nil_append, List.length_nil, Nat.add_zero, List.take_append_drop]

end Go.Proofs.Ytjnnhkodkbhbbaa

/- The document's own small. Each theorem names its own conditions. -/
namespace Go.Proofs.Ytjnnhkodkbhbbaa
open Go.RowKit
set_option linter.unusedVariables false
set_option linter.unusedSimpArgs false

theorem rsmall_any (n : Int) (w : World) : Calls Try.prog 24 #[.int .i64 n] w fun e w' => e = .returned (.bool (smallB n)) ∧ w = w' := by
  by_cases h1 : 0 ≤ n
  · by_cases h2 : n ≤ 2147483647
    · have HB := Lib.hid (smallB_of h1 h2)
      go_enter Try.func24, Try.ntmps24
      go_wp2_with fail
      go_ret
      exact ⟨by rw [HB.out]; rfl, rfl⟩
    · have HB := Lib.hid (smallB_not (n := n) (fun h => h2 h.2))
      go_enter Try.func24, Try.ntmps24
      go_wp2_with fail
      go_ret
      exact ⟨by rw [HB.out]; rfl, rfl⟩
  · have HB := Lib.hid (smallB_not (n := n) (fun h => h1 h.1))
    go_enter Try.func24, Try.ntmps24
    go_wp2_with fail
    go_ret
    exact ⟨by rw [HB.out]; rfl, rfl⟩
theorem rsmall_q (n : Int) (r : Bool) (w : World) (hr : smallB n = r) : Calls Try.prog 24 #[.int .i64 n] w fun e w' => e = .returned (.bool r) ∧ w = w' := by
  subst hr
  exact rsmall_any n w

end Go.Proofs.Ytjnnhkodkbhbbaa

/- ChaCha20-Poly1305 as functions on lists of bytes: what is tagged, the tag, what is sealed, what is opened. No program. Each theorem names its own conditions. -/
namespace Go.Proofs.Ytjnnhkodkbhbbaa
open Go.RowKit
set_option linter.unusedVariables false
set_option linter.unusedSimpArgs false

/-- Noughts up to a multiple of 16. -/
def z16 (n : Nat) : List UInt8 := List.replicate ((16 - n % 16) % 16) 0
theorem z16_length (n : Nat) : (z16 n).length = (16 - n % 16) % 16 := by simp [z16]
theorem z16_nil {n : Nat} (h : n % 16 = 0) : z16 n = [] := by
  unfold z16
  rw [h]
  rfl
/-- What is tagged. -/
def aeaMsg (c s : List UInt8) : List UInt8 := s ++ (z16 s.length ++ (c ++ (z16 c.length ++ (bytesN 8 s.length ++ bytesN 8 c.length))))
def oneKey (kb nb : List UInt8) : List UInt8 := (chaBlock kb 0#32 nb).take 32
theorem oneKey_length (kb nb : List UInt8) : (oneKey kb nb).length = 32 := by
  unfold oneKey
  rw [List.length_take, chaBlock_length]
  rfl
def aeaTag (kb nb c s : List UInt8) : List UInt8 := polyTag (oneKey kb nb) (aeaMsg c s)
theorem aeaTag_length (kb nb c s : List UInt8) : (aeaTag kb nb c s).length = 16 := polyTag_length _ _
def sealB (kb nb p s : List UInt8) : List UInt8 := chaTurn kb 1 nb p ++ aeaTag kb nb (chaTurn kb 1 nb p) s
theorem sealB_length (kb nb p s : List UInt8) : (sealB kb nb p s).length = p.length + 16 := by
  unfold sealB
  rw [List.length_append, chaTurn_length, aeaTag_length]
/-- What is opened: nothing, if the tag is another one. -/
def openB (kb nb b s : List UInt8) : Option (List UInt8) :=
  if b.length < 16 then none else if aeaTag kb nb (b.take (b.length - 16)) s = b.drop (b.length - 16) then some (chaTurn kb 1 nb (b.take (b.length - 16))) else none
theorem openB_short (kb nb : List UInt8) {b : List UInt8} (s : List UInt8) (h : b.length < 16) : openB kb nb b s = none := by
  unfold openB
  rw [if_pos h]
theorem sealB_take (kb nb p s : List UInt8) : (sealB kb nb p s).take ((sealB kb nb p s).length - 16) = chaTurn kb 1 nb p := by
  rw [sealB_length, Nat.add_sub_cancel]
  unfold sealB
  rw [List.take_append_of_le_length (by rw [chaTurn_length]; omega), List.take_of_length_le (by rw [chaTurn_length]; omega)]
theorem sealB_drop (kb nb p s : List UInt8) : (sealB kb nb p s).drop ((sealB kb nb p s).length - 16) = aeaTag kb nb (chaTurn kb 1 nb p) s := by
  rw [sealB_length, Nat.add_sub_cancel]
  unfold sealB
  rw [List.drop_append, List.drop_eq_nil_of_le (by rw [chaTurn_length]; omega), List.nil_append, chaTurn_length, Nat.sub_self, List.drop_zero]
theorem open_seal (kb nb p s : List UInt8) : openB kb nb (sealB kb nb p s) s = some p := by
  unfold openB
  rw [if_neg (by rw [sealB_length]; omega), sealB_take, sealB_drop, if_pos rfl, chaTurn_twice]
/-- A tag of which a byte is another one is no tag. -/
theorem open_turned (kb nb p s : List UInt8) (k : Nat) (hk : p.length ≤ k) (hk2 : k < p.length + 16) (z : UInt8) (hz : z ≠ (sealB kb nb p s).getD k 0) : openB kb nb ((sealB kb nb p s).set k z) s = none := by
  have hl := sealB_length kb nb p s
  unfold openB
  rw [if_neg (by rw [List.length_set, hl]; omega), List.length_set]
  have e1 : ((sealB kb nb p s).set k z).take ((sealB kb nb p s).length - 16) = chaTurn kb 1 nb p := by
    rw [List.take_set_of_le (by omega), sealB_take]
  rw [e1, if_neg]
  intro h
  rw [← sealB_drop] at h
  have h2 := congrArg (fun l : List UInt8 => l.getD (k - p.length) 0) h
  have e2 : (List.drop ((sealB kb nb p s).length - 16) (sealB kb nb p s)).getD (k - p.length) 0 = (sealB kb nb p s).getD k 0 := by
    rw [List.getD_eq_getElem?_getD, List.getElem?_drop, hl, show p.length + 16 - 16 + (k - p.length) = k by omega, ← List.getD_eq_getElem?_getD]
  have e3 : (List.drop ((sealB kb nb p s).length - 16) ((sealB kb nb p s).set k z)).getD (k - p.length) 0 = z := by
    rw [List.getD_eq_getElem?_getD, List.getElem?_drop, hl, show p.length + 16 - 16 + (k - p.length) = k by omega, List.getElem?_set_self (by omega)]
    rfl
  rw [e2, e3] at h2
  exact hz h2.symm
theorem xor_other {a y : UInt8} (hy : y ≠ 0) : a ^^^ y ≠ a := by
  intro h
  apply hy
  have h2 : a ^^^ (a ^^^ y) = a ^^^ a := by rw [h]
  rw [← UInt8.xor_assoc, UInt8.xor_self, UInt8.zero_xor] at h2
  exact h2
theorem zero_bytes (n : Nat) : bytesN n 0 = List.replicate n 0 := by
  have h := bytesN_leN (List.replicate n (0 : UInt8))
  rw [leN_zeros, List.length_replicate] at h
  exact h

end Go.Proofs.Ytjnnhkodkbhbbaa

/- Numbers as eight bytes, the highest first, and byte strings with their lengths: put and read. No program. Each theorem names its own conditions. -/
namespace Go.Proofs.Ytjnnhkodkbhbbaa
open Go.RowKit
set_option linter.unusedVariables false

/-- The k-th byte from the right of a number in two's complement. -/
def byteAt (n : Int) (k : Nat) : UInt8 := UInt8.ofNat ((n / 256 ^ k) % 256).toNat
/-- A number's eight bytes, the highest first. -/
def pck_be8 (n : Int) : List UInt8 := [byteAt n 7, byteAt n 6, byteAt n 5, byteAt n 4, byteAt n 3, byteAt n 2, byteAt n 1, byteAt n 0]

theorem be8_length (n : Int) : (pck_be8 n).length = 8 := rfl
/-- The numbers' bytes, one behind the other. -/
def be8s (ns : List Int) : List UInt8 := ns.flatMap pck_be8
theorem be8s_length (ns : List Int) : (be8s ns).length = 8 * ns.length := by
  induction ns with
  | nil => rfl
  | cons n ns ih => simp [be8s] at ih ⊢; rw [be8_length]; omega
theorem be8s_snoc (ns : List Int) (n : Int) : be8s (ns ++ [n]) = be8s ns ++ pck_be8 n := by simp [be8s]

theorem byte_cell (n : Int) (k : Nat) : bval (byteAt n k) = .int .u8 ((n / 256 ^ k) % 256) := by
  unfold bval byteAt
  congr 1
  generalize n / 256 ^ k = m
  rw [UInt8.toNat_ofNat']
  omega

/-- The number that bytes are, the highest first. -/
def accN (l : List UInt8) : Nat := l.foldl (fun a b => a * 256 + b.toNat) 0
theorem accN_snoc (l : List UInt8) (b : UInt8) : accN (l ++ [b]) = accN l * 256 + b.toNat := by simp [accN]
theorem accN_from : ∀ (l : List UInt8) (a : Nat), l.foldl (fun a b => a * 256 + b.toNat) a < (a + 1) * 256 ^ l.length
  | [], a => by simp
  | b :: l, a => by
    have hb := b.toNat_lt
    have h := accN_from l (a * 256 + b.toNat)
    have h2 : (a * 256 + b.toNat + 1) * 256 ^ l.length ≤ ((a + 1) * 256) * 256 ^ l.length := Nat.mul_le_mul_right _ (by omega)
    rw [List.foldl_cons, List.length_cons, Nat.pow_succ, Nat.mul_comm (256 ^ l.length), ← Nat.mul_assoc]
    omega
theorem accN_lt (l : List UInt8) : accN l < 256 ^ l.length := by
  have := accN_from l 0
  simpa [accN] using this
/-- The same in two's complement. -/
def decI (l : List UInt8) : Int := IntKind.i64.wrap (accN l : Int)

theorem decI_small {l : List UInt8} (h : l.length ≤ 7) : decI l = (accN l : Int) := by
  unfold decI
  have h1 := accN_lt l
  have h2 : 256 ^ l.length ≤ 256 ^ 7 := Nat.pow_le_pow_right (by omega) h
  have h3 : (256 : Nat) ^ 7 = 72057594037927936 := by decide
  rw [IntKind.wrap_i64]
  omega

/-- The byte strings' bytes: each one's length, and itself. -/
def putL (ls : List (List UInt8)) : List UInt8 := ls.flatMap fun l => pck_be8 l.length ++ l
theorem putL_snoc (ls : List (List UInt8)) (l : List UInt8) : putL (ls ++ [l]) = putL ls ++ (pck_be8 l.length ++ l) := by simp [putL]
theorem putL_take_le (ls : List (List UInt8)) (k : Nat) : (putL (ls.take k)).length ≤ (putL ls).length := by
  have e : putL ls = putL (ls.take k) ++ putL (ls.drop k) := by
    unfold putL
    rw [← List.flatMap_append, List.take_append_drop]
  rw [e, List.length_append]
  omega
theorem putL_take_succ {ls : List (List UInt8)} {k : Nat} (h : k < ls.length) : putL (ls.take (k + 1)) = putL (ls.take k) ++ (pck_be8 (ls[k]).length ++ ls[k]) := by
  rw [List.take_succ_eq_append_getElem h, putL_snoc]

end Go.Proofs.Ytjnnhkodkbhbbaa

/- The plain lists of chapter 2: what is read where of what was put; that unlike rows have unlike bytes. No program, no condition beyond those each theorem names. -/
namespace Go.Proofs.Ytjnnhkodkbhbbaa
open Go.RowKit
set_option linter.unusedVariables false

theorem byteAt_nat (n : Int) (k : Nat) : ((byteAt n k).toNat : Int) = (n / 256 ^ k) % 256 := by
  have := byte_cell n k
  unfold bval at this
  injection this

/-- A number in two's complement comes back. -/
theorem decI_be8 (n : Int) (h1 : -9223372036854775808 ≤ n) (h2 : n ≤ 9223372036854775807) : decI (pck_be8 n) = n := by
  unfold decI
  have e : (accN (pck_be8 n) : Int) = (((((((((byteAt n 7).toNat : Int) * 256 + (byteAt n 6).toNat) * 256 + (byteAt n 5).toNat) * 256 + (byteAt n 4).toNat) * 256 + (byteAt n 3).toNat) * 256 + (byteAt n 2).toNat) * 256 + (byteAt n 1).toNat) * 256 + (byteAt n 0).toNat) := by
    simp [accN, pck_be8]
  rw [e, IntKind.wrap_i64]
  simp only [byteAt_nat]
  have e0 : n / 256 ^ 0 = n := by simp
  have s : ∀ k : Nat, n / 256 ^ (k + 1) = n / 256 ^ k / 256 := by
    intro k
    rw [Int.ediv_ediv_of_nonneg (Int.pow_nonneg (by omega)), Int.pow_succ]
  rw [s 6, s 5, s 4, s 3, s 2, s 1, s 0, e0]
  generalize h1' : n / 256 = x1
  generalize h2' : x1 / 256 = x2
  generalize h3' : x2 / 256 = x3
  generalize h4' : x3 / 256 = x4
  generalize h5' : x4 / 256 = x5
  generalize h6' : x5 / 256 = x6
  generalize h7' : x6 / 256 = x7
  omega

theorem be8_inj {m n : Int} (h1 : -9223372036854775808 ≤ m) (h2 : m ≤ 9223372036854775807) (g1 : -9223372036854775808 ≤ n) (g2 : n ≤ 9223372036854775807) (h : pck_be8 m = pck_be8 n) : m = n := by
  rw [← decI_be8 m h1 h2, h, decI_be8 n g1 g2]

theorem be8s_cons (n : Int) (ns : List Int) : be8s (n :: ns) = pck_be8 n ++ be8s ns := by simp [be8s]
theorem putL_cons (l : List UInt8) (ls : List (List UInt8)) : putL (l :: ls) = pck_be8 l.length ++ l ++ putL ls := by simp [putL]

/-- The i-th number's bytes, where they lie. -/
theorem be8s_at : ∀ (ns : List Int) (i : Nat) (h : i < ns.length) (rest : List UInt8), ((be8s ns ++ rest).drop (8 * i)).take 8 = pck_be8 ns[i]
  | n :: ns, 0, _, rest => by
    rw [be8s_cons, Nat.mul_zero, List.drop_zero, List.append_assoc]
    exact List.take_left' (be8_length n)
  | n :: ns, i + 1, h, rest => by
    have ih := be8s_at ns i (by simpa using h) rest
    rw [be8s_cons, List.append_assoc, show 8 * (i + 1) = (pck_be8 n).length + 8 * i from by rw [be8_length]; omega, ← List.drop_drop, List.drop_left]
    exact ih

theorem putL_split (ls : List (List UInt8)) (i : Nat) (h : i < ls.length) : putL ls = putL (ls.take i) ++ (pck_be8 (ls[i]).length ++ (ls[i] ++ putL (ls.drop (i + 1)))) := by
  have e : ls = ls.take i ++ ls[i] :: ls.drop (i + 1) := by
    rw [← List.drop_eq_getElem_cons h, List.take_append_drop]
  conv => lhs; rw [e]
  have : putL (ls.take i ++ ls[i] :: ls.drop (i + 1)) = putL (ls.take i) ++ putL (ls[i] :: ls.drop (i + 1)) := by unfold putL; rw [List.flatMap_append]
  rw [this, putL_cons]
  simp only [List.append_assoc]

/-- The i-th byte string's length, and itself, where they lie. -/
theorem putL_at (pre : List UInt8) (ls : List (List UInt8)) (i : Nat) (h : i < ls.length) :
    ((pre ++ putL ls).drop (pre.length + (putL (ls.take i)).length)).take 8 = pck_be8 (ls[i]).length ∧
    ((pre ++ putL ls).drop (pre.length + (putL (ls.take i)).length + 8)).take (ls[i]).length = ls[i] := by
  rw [putL_split ls i h, ← List.append_assoc, show pre.length + (putL (ls.take i)).length = (pre ++ putL (ls.take i)).length from by simp]
  constructor
  · rw [List.drop_left]
    exact List.take_left' (be8_length _)
  · rw [← List.drop_drop, List.drop_left, show (8 : Nat) = (pck_be8 ((ls[i]).length : Int)).length from rfl, List.drop_left]
    exact List.take_left

theorem putL_pos (ls : List (List UInt8)) (i : Nat) (h : i < ls.length) : (putL (ls.take (i + 1))).length = (putL (ls.take i)).length + 8 + (ls[i]).length := by
  rw [putL_take_succ h]
  simp only [List.length_append, be8_length]
  omega

/-- Unlike rows of numbers have unlike bytes. -/
theorem be8s_inj : ∀ (ms ns : List Int), (∀ n ∈ ms, -9223372036854775808 ≤ n ∧ n ≤ 9223372036854775807) → (∀ n ∈ ns, -9223372036854775808 ≤ n ∧ n ≤ 9223372036854775807) → be8s ms = be8s ns → ms = ns
  | [], [], _, _, _ => rfl
  | [], n :: ns, _, _, h => by have := congrArg List.length h; simp [be8s_length] at this
  | m :: ms, [], _, _, h => by have := congrArg List.length h; simp [be8s_length] at this
  | m :: ms, n :: ns, hm, hn, h => by
    rw [be8s_cons, be8s_cons] at h
    obtain ⟨h1, h2⟩ := List.append_inj h rfl
    have hm0 := hm m (List.mem_cons_self ..)
    have hn0 := hn n (List.mem_cons_self ..)
    rw [be8_inj hm0.1 hm0.2 hn0.1 hn0.2 h1, be8s_inj ms ns (fun x hx => hm x (List.mem_cons_of_mem _ hx)) (fun x hx => hn x (List.mem_cons_of_mem _ hx)) h2]

/-- Unlike rows of byte strings have unlike bytes. -/
theorem putL_inj : ∀ (xs ys : List (List UInt8)), (∀ l ∈ xs, l.length ≤ 1099511627776) → (∀ l ∈ ys, l.length ≤ 1099511627776) → putL xs = putL ys → xs = ys
  | [], [], _, _, _ => rfl
  | [], b :: ys, _, _, h => by
    have := congrArg List.length h
    rw [putL_cons] at this
    simp [putL, be8_length] at this <;> omega
  | a :: xs, [], _, _, h => by
    have := congrArg List.length h
    rw [putL_cons] at this
    simp [putL, be8_length] at this <;> omega
  | a :: xs, b :: ys, ha, hb, h => by
    rw [putL_cons, putL_cons, List.append_assoc, List.append_assoc] at h
    obtain ⟨h1, h2⟩ := List.append_inj h rfl
    have ha0 := ha a (List.mem_cons_self ..)
    have hb0 := hb b (List.mem_cons_self ..)
    have hlen : (a.length : Int) = b.length := be8_inj (by omega) (by omega) (by omega) (by omega) h1
    obtain ⟨h3, h4⟩ := List.append_inj h2 (by omega)
    rw [h3, putL_inj xs ys (fun x hx => ha x (List.mem_cons_of_mem _ hx)) (fun x hx => hb x (List.mem_cons_of_mem _ hx)) h4]

end Go.Proofs.Ytjnnhkodkbhbbaa

/- An image divided, its blocks sealed, as functions on lists. No program. Each theorem names its own conditions. -/
namespace Go.Proofs.Ytjnnhkodkbhbbaa
open Go.RowKit
set_option linter.unusedVariables false

/-- An image's blocks: 64 bytes each, the last one with noughts behind; one at least. -/
def cutN (b : List UInt8) : Nat := if b = [] then 1 else (b.length + 63) / 64
def cutAt (b : List UInt8) (i : Nat) : List UInt8 := (b.drop (64 * i)).take 64 ++ List.replicate (64 - ((b.drop (64 * i)).take 64).length) 0
def cutF (b : List UInt8) : List (List UInt8) := (List.range (cutN b)).map (cutAt b)
theorem cutAt_length (b : List UInt8) (i : Nat) : (cutAt b i).length = 64 := by
  unfold cutAt
  rw [List.length_append, List.length_replicate]
  have : ((b.drop (64 * i)).take 64).length ≤ 64 := by rw [List.length_take]; omega
  omega
theorem cutF_length (b : List UInt8) : (cutF b).length = cutN b := by
  unfold cutF
  rw [List.length_map, List.length_range]
theorem cutN_pos (b : List UInt8) : 1 ≤ cutN b := by
  unfold cutN
  split
  · omega
  · rename_i h
    have : 0 < b.length := List.length_pos_iff.2 h
    omega
theorem cutN_le {b : List UInt8} (h : b.length ≤ 2048) : cutN b ≤ 32 := by
  unfold cutN
  split <;> omega
/-- A block, sealed. -/
def nonB (i : Nat) : List UInt8 := [0, 0, 0, 0] ++ pck_be8 (i : Int)
theorem nonB_length (i : Nat) : (nonB i).length = 12 := rfl
def blkS (key : List UInt8) (ver : Int) (i : Nat) (p : List UInt8) : List UInt8 := sealB key (nonB i) p (pck_be8 ver)
theorem blkS_is (key : List UInt8) (ver : Int) (i : Nat) (p : List UInt8) : sealB key (nonB i) p (pck_be8 ver) = blkS key ver i p := rfl
theorem nonB_is (i : Nat) : ([0, 0, 0, 0] ++ pck_be8 (i : Int) : List UInt8) = nonB i := rfl
theorem blkS_length {key : List UInt8} {ver : Int} {i : Nat} {p : List UInt8} (h : p.length = 64) : (blkS key ver i p).length = 80 := by
  unfold blkS
  rw [sealB_length, h]
def makF (key : List UInt8) (ver : Int) (b : List UInt8) : List (List UInt8) := (List.range (cutN b)).map fun i => blkS key ver i (cutAt b i)
theorem makF_length (key : List UInt8) (ver : Int) (b : List UInt8) : (makF key ver b).length = cutN b := by
  unfold makF
  rw [List.length_map, List.length_range]

end Go.Proofs.Ytjnnhkodkbhbbaa

/- A region that draws its order, walked once: each operation gives what is told of it whatever came up ahead, and leaves what was told of the others. Nothing here speaks of a program. Each theorem names its own conditions. -/
namespace Go.Proofs.Ytjnnhkodkbhbbaa
open Go.RowKit
set_option linter.unusedVariables false
set_option linter.unusedSimpArgs false

/-- What is told of an operation's value: p stands as long as rows read as they did; q, as long as nothing old turns and operation k has not come up. -/
structure Tld where
  p : Value → World → Prop
  q : Value → World → Prop
  k : Option Nat
  hp : ∀ v w w', p v w → (∀ x xs, Row1 w x xs → Row1 w' x xs) → p v w'
  hq : ∀ v w w', q v w → Ext w w' → q v w'
def Tld.is (c : Value) : Tld := ⟨fun v _ => v = c, fun _ _ => True, none, fun _ _ _ h _ => h, fun _ _ _ h _ => h⟩
def Tld.row (l : List Value) : Tld := ⟨fun v w => Row1 w v l, fun _ _ => True, none, fun _ _ _ h g => g _ _ h, fun _ _ _ h _ => h⟩
def Tld.any : Tld := ⟨fun _ _ => True, fun _ _ => True, none, fun _ _ _ h _ => h, fun _ _ _ h _ => h⟩
/-- A row of one's own until operation k takes it. -/
def Tld.own (base : Nat) (e : TypeId) (n : Nat) (l : List Value) (k : Nat) : Tld := ⟨fun v w => Row1 w v l, fun v w => w.ownsRow base e 1 v n l, some k, fun _ _ _ h g => g _ _ h, fun _ _ _ h g => own_below h g⟩
def Tld.at (s : Tld) (L : Nat → Bool) (v : Value) (w : World) : Prop := s.p v w ∧ ∀ k, s.k = some k → L k = false → s.q v w

abbrev RelL := List (Nat × Option Nat × Tld)
def RelL.of (L : RelL) (i : Nat) : Tld := match L.find? (fun x => x.1 == i) with
  | some x => x.2.2
  | none => Tld.any
def putsR (u : Nat → Value) : RelL → Act → Act
  | [], a => a
  | x :: r, a => putsR u r (a.put x.2.1 (u x.1))
def updR (u : Nat → Value) (i : Nat) (v : Value) : Nat → Value := fun j => if j = i then v else u j
theorem putsR_congr {u u' : Nat → Value} : ∀ (L : RelL) (a : Act), (∀ x ∈ L, u x.1 = u' x.1) → putsR u L a = putsR u' L a
  | [], _, _ => rfl
  | x :: r, a, h => by
    unfold putsR
    rw [h x (List.mem_cons_self ..)]
    exact putsR_congr r _ (fun y hy => h y (List.mem_cons_of_mem _ hy))
theorem put_again (a : Act) (d : Option Nat) (x v : Value) : (a.put d x).put d v = a.put d v := by
  cases d with
  | none => rfl
  | some d =>
    unfold Act.put
    simp only
    congr 1
    rcases a.tmps with ⟨l⟩
    simp only [List.setIfInBounds_toArray, List.set_set]
theorem putsR_comm {u : Nat → Value} {d : Option Nat} (v : Value) : ∀ (L : RelL) (a : Act), (∀ x ∈ L, d = none ∨ x.2.1 ≠ d) → (putsR u L a).put d v = putsR u L (a.put d v)
  | [], _, _ => rfl
  | x :: r, a, h => by
    unfold putsR
    rw [putsR_comm v r _ (fun y hy => h y (List.mem_cons_of_mem _ hy))]
    congr 1
    rcases h x (List.mem_cons_self ..) with rfl | hx
    · rfl
    · exact Act.put_comm a (u x.1) v (fun e he hd => hx (by rw [he, hd]))
/-- No operation is listed twice, no two have one place. -/
def RelL.apart : RelL → Bool
  | [] => true
  | x :: r => r.all (fun y => y.1 != x.1 && (x.2.1 == none || y.2.1 != x.2.1)) && RelL.apart r
theorem putsR_put {u : Nat → Value} {i : Nat} {d : Option Nat} {s : Tld} (v : Value) : ∀ (L : RelL) (a : Act), RelL.apart L = true → (i, d, s) ∈ L → (putsR u L a).put d v = putsR (updR u i v) L a
  | [], _, _, h => by cases h
  | x :: r, a, hA, h => by
    unfold RelL.apart at hA
    rw [Bool.and_eq_true] at hA
    obtain ⟨h1, h2⟩ := hA
    have h1 : ∀ y ∈ r, (y.1 ≠ x.1) ∧ (x.2.1 = none ∨ y.2.1 ≠ x.2.1) := fun y hy => by simpa using List.all_eq_true.1 h1 y hy
    unfold putsR
    by_cases hx : x = (i, d, s)
    · subst hx
      rw [putsR_comm v r _ (fun y hy => (h1 y hy).2), put_again]
      rw [show updR u i v i = v from if_pos rfl]
      exact putsR_congr r _ (fun y hy => by
        unfold updR
        rw [if_neg (h1 y hy).1])
    · have hr : (i, d, s) ∈ r := by
        rcases List.mem_cons.1 h with e | e
        · exact absurd e.symm hx
        · exact e
      rw [putsR_put v r _ h2 hr]
      have : x.1 ≠ i := fun e => (h1 _ hr).1 e.symm
      rw [show updR u i v x.1 = u x.1 from if_neg this]
theorem put_self (a : Act) (d : Option Nat) : a.put d (match d with | some d => a.tmps.getD d undef | none => undef) = a := by
  cases d with
  | none => rfl
  | some d =>
    unfold Act.put
    simp only
    obtain ⟨⟨l⟩, df⟩ := a
    congr 1
    simp only [List.setIfInBounds_toArray, Array.getD_eq_getD_getElem?, List.getElem?_toArray]
    congr 1
    by_cases h : d < l.length
    · rw [List.getElem?_eq_getElem h]
      simp
    · rw [List.set_eq_of_length_le (by omega)]
theorem putsR_self (a : Act) : ∀ (L : RelL), (∀ u : Nat → Value, (∀ x ∈ L, u x.1 = (match x.2.1 with | some d => a.tmps.getD d undef | none => undef)) → putsR u L a = a)
  | [], _, _ => rfl
  | x :: r, u, h => by
    unfold putsR
    rw [h x (List.mem_cons_self ..), put_self]
    exact putsR_self a r u (fun y hy => h y (List.mem_cons_of_mem _ hy))

section
variable {P : Program} {md : Region.Mode} {ops : Array Oper} {Q : Exit → Act → World → Prop}
def relEdge (md : Region.Mode) (ops : Array Oper) (i j : Nat) : Bool := ((ops[i]?).map fun o => o.after.any fun e => Region.binds md e && e.on == j).getD false
/-- What each operation owes. -/
inductive RelOb (P : Program) (md : Region.Mode) (ops : Array Oper) (Q : Exit → Act → World → Prop) (B : World) (L0 : RelL) (u : Nat → Value) (a : Act) : RelL → Prop
  | nil : RelOb P md ops Q B L0 u a []
  | cons {i : Nat} {d : Option Nat} {s : Tld} {r : RelL} {oi : Oper} (ho : ops[i]? = some oi) (hd : oi.dst = d)
      (h : ∀ (w : World) (K : Act → World → Prop), Ext B w → (∀ j, relEdge md ops i j = true → (L0.of j).p (u j) w ∧ ((L0.of j).k = some i → (L0.of j).q (u j) w)) →
        Shut (∀ v w', ((Ext w w') ∨ (Ext B w' ∧ (∀ x xs, Row1 w x xs → Row1 w' x xs) ∧ (L0.all fun y => y.2.2.k == none || y.2.2.k == some i) = true)) → s.p v w' ∧ (s.k.isSome = true → s.q v w') → K (a.put d v) w') →
        if Region.wanted oi (yielded ops a.tmps) = true then oi.wp P a w K Q else K (a.put d undef) w)
      (t : RelOb P md ops Q B L0 u a r) : RelOb P md ops Q B L0 u a ((i, d, s) :: r)
theorem RelOb.get {B : World} {L0 : RelL} {u : Nat → Value} {a : Act} {i : Nat} {d : Option Nat} {s : Tld} : ∀ {L : RelL}, RelOb P md ops Q B L0 u a L → (i, d, s) ∈ L → ∃ oi, ops[i]? = some oi ∧ oi.dst = d ∧ ∀ (w : World) (K : Act → World → Prop), Ext B w → (∀ j, relEdge md ops i j = true → (L0.of j).p (u j) w ∧ ((L0.of j).k = some i → (L0.of j).q (u j) w)) →
        Shut (∀ v w', ((Ext w w') ∨ (Ext B w' ∧ (∀ x xs, Row1 w x xs → Row1 w' x xs) ∧ (L0.all fun y => y.2.2.k == none || y.2.2.k == some i) = true)) → s.p v w' ∧ (s.k.isSome = true → s.q v w') → K (a.put d v) w') →
        if Region.wanted oi (yielded ops a.tmps) = true then oi.wp P a w K Q else K (a.put d undef) w
  | _, .nil, h => by cases h
  | _, .cons ho hd hh t, h => by
    rcases List.mem_cons.1 h with e | e
    · cases e
      exact ⟨_, ho, hd, hh⟩
    · exact t.get e
theorem RelL.of_mem : ∀ {L : RelL} {i : Nat} {d : Option Nat} {s : Tld}, RelL.apart L = true → (i, d, s) ∈ L → L.of i = s
  | x :: r, i, d, s, hA, h => by
    unfold RelL.apart at hA
    rw [Bool.and_eq_true] at hA
    obtain ⟨h1, h2⟩ := hA
    have h1 : ∀ y ∈ r, (y.1 ≠ x.1) := fun y hy => by
      have := List.all_eq_true.1 h1 y hy
      simp at this
      exact this.1
    unfold RelL.of
    rcases List.mem_cons.1 h with e | e
    · subst e
      simp
    · have hne := h1 _ e
      rw [List.find?_cons_of_neg (by simpa using fun e2 => hne e2.symm)]
      exact RelL.of_mem h2 e
theorem RelL.uniq {L : RelL} (hA : RelL.apart L = true) {i : Nat} {d d' : Option Nat} {s s' : Tld} (h : (i, d, s) ∈ L) (h' : (i, d', s') ∈ L) : s = s' := (RelL.of_mem hA h).symm.trans (RelL.of_mem hA h')
theorem RelL.of_none {L : RelL} {j : Nat} (h : ∀ d s, (j, d, s) ∉ L) : L.of j = Tld.any := by
  unfold RelL.of
  have : L.find? (fun x => x.1 == j) = none := by
    rw [List.find?_eq_none]
    rintro ⟨i, d, s⟩ hx hj
    have e : i = j := by simpa using hj
    subst e
    exact h d s hx
  rw [this]
theorem getD_in {l : Array Bool} {i : Nat} (h : i < l.size) : l.getD i true = l.getD i false := by
  simp [Array.getD, h]
theorem getD_set {l : Array Bool} {i : Nat} (h : i < l.size) (k : Nat) (b : Bool) : (l.setIfInBounds i true).getD k b = if k = i then true else l.getD k b := by
  simp only [Array.getD_eq_getD_getElem?, Array.getElem?_setIfInBounds]
  by_cases e : i = k
  · subst e
    simp [h]
  · rw [if_neg e, if_neg (fun x => e x.symm)]
theorem count_less {l : Array Bool} {n i : Nat} (hn : l.size = n) (h : i < n) (hu : l.getD i true = false) {f : Nat} (hf : ((List.range n).filter (fun j => !l.getD j true)).length = f + 1) : ((List.range n).filter (fun j => !(l.setIfInBounds i true).getD j true)).length = f := by
  have e : (List.range n).filter (fun j => !(l.setIfInBounds i true).getD j true) = ((List.range n).filter (fun j => !l.getD j true)).erase i := by
    rw [List.Nodup.erase_eq_filter (List.Nodup.sublist List.filter_sublist List.nodup_range), List.filter_filter]
    apply List.filter_congr
    intro j hj
    rw [getD_set (by omega)]
    by_cases hji : j = i
    · subst hji
      simp
    · simp [hji]
  rw [e, List.length_erase_of_mem (by rw [List.mem_filter]; exact ⟨List.mem_range.2 h, by rw [hu]; rfl⟩), hf]
  rfl
theorem rel_go {B : World} {L : RelL} {a : Act} (hA : RelL.apart L = true)
    (hdag : ∀ x ∈ L, ∃ o, ops[x.1]? = some o ∧ ∀ e ∈ o.after, Region.binds md e = true → e.on < x.1)
    (ob : ∀ u, RelOb P md ops Q B L u (putsR u L a) L)
    (fin : ∀ u w, Ext B w → (∀ x ∈ L, x.2.2.p (u x.1) w ∧ ∀ k, x.2.2.k = some k → ops.size ≤ k → x.2.2.q (u x.1) w) → Q .normal (putsR u L a) w) :
    ∀ (fuel : Nat) (listed : Array Bool) (u : Nat → Value) (w : World), listed.size = ops.size → ((List.range ops.size).filter (fun i => !listed.getD i true)).length = fuel →
      (∀ i, i < ops.size → listed.getD i true = false → ∃ d s, (i, d, s) ∈ L) → (∀ x ∈ L, x.1 < ops.size) → Ext B w → (∀ x ∈ L, listed.getD x.1 false = true → x.2.2.at (fun k => listed.getD k false) (u x.1) w) →
      wpAnyH P md ops Q (fun w' => Ext B w') fuel listed (putsR u L a) w := by
  -- where none is ready all have come up
  have all : ∀ listed : Array Bool, listed.size = ops.size → (∀ i, i < ops.size → listed.getD i true = false → ∃ d s, (i, d, s) ∈ L) → Region.ready md ops listed = [] → ∀ i, i < ops.size → listed.getD i true = true := by
    intro listed hs hsub hr i
    induction i using Nat.strongRecOn with
    | ind i ih =>
      intro hi
      cases hb : listed.getD i true with
      | true => rfl
      | false =>
        obtain ⟨d, s, hm⟩ := hsub i hi hb
        obtain ⟨o, ho, he⟩ := hdag _ hm
        have : i ∈ Region.ready md ops listed := by
          unfold Region.ready
          rw [List.mem_filter]
          refine ⟨List.mem_range.2 hi, ?_⟩
          rw [hb, show ops[i]? = some o from ho]
          simp only [Bool.not_false, Bool.true_and, Option.map_some, Option.getD_some]
          rw [Array.all_eq_true_iff_forall_mem]
          intro e hme
          cases hbd : Region.binds md e with
          | false => rfl
          | true =>
            have hlt := he e hme hbd
            have h2 := ih e.on hlt (Nat.lt_trans hlt hi)
            rw [getD_in (by rw [hs]; exact Nat.lt_trans hlt hi)] at h2
            rw [h2]
            rfl
        rw [hr] at this
        cases this
  have done : ∀ (listed : Array Bool) (u : Nat → Value) (w : World), listed.size = ops.size → (∀ i, i < ops.size → listed.getD i true = false → ∃ d s, (i, d, s) ∈ L) → (∀ x ∈ L, x.1 < ops.size) → Ext B w → (∀ x ∈ L, listed.getD x.1 false = true → x.2.2.at (fun k => listed.getD k false) (u x.1) w) → Region.ready md ops listed = [] → Q .normal (putsR u L a) w := by
    intro listed u w hs hsub hlt hx hat hr
    refine fin u w hx (fun x hm => ?_)
    have h1 := all listed hs hsub hr x.1 (hlt x hm)
    rw [getD_in (by rw [hs]; exact hlt x hm)] at h1
    obtain ⟨h2, h3⟩ := hat x hm h1
    exact ⟨h2, fun k hk hge => h3 k hk (by simp [Array.getD, show ¬ k < listed.size by omega])⟩
  intro fuel
  induction fuel with
  | zero =>
    intro listed u w hs hc hsub hlt hx hat
    have hr : Region.ready md ops listed = [] := by
      rw [List.eq_nil_iff_forall_not_mem]
      intro i hi
      unfold Region.ready at hi
      rw [List.mem_filter, Bool.and_eq_true] at hi
      have : i ∈ (List.range ops.size).filter (fun i => !listed.getD i true) := List.mem_filter.2 ⟨hi.1, hi.2.1⟩
      rw [List.eq_nil_of_length_eq_zero hc] at this
      cases this
    exact ⟨hr, done listed u w hs hsub hlt hx hat hr⟩
  | succ fuel ih =>
    intro listed u w hs hc hsub hlt hx hat
    refine ⟨done listed u w hs hsub hlt hx hat, fun i hi => ?_⟩
    have hi2 := hi
    unfold Region.ready at hi
    rw [List.mem_filter, Bool.and_eq_true] at hi
    obtain ⟨hir, hun, hedge⟩ := hi
    have hin : i < ops.size := List.mem_range.1 hir
    have hun : listed.getD i true = false := by simpa using hun
    have hunf : listed.getD i false = false := by rw [← getD_in (by omega)]; exact hun
    obtain ⟨d, s, hm⟩ := hsub i hin hun
    obtain ⟨oi, ho, hd, hh⟩ := (ob u).get hm
    subst hd
    rw [ho] at hedge
    simp only [Option.map_some, Option.getD_some] at hedge
    rw [Array.all_eq_true_iff_forall_mem] at hedge
    refine wpOp_step ho (fun K' hK' => ?_)
    refine hh w K' hx (fun j hj => ?_) (fun v w' hT hp => ?_)
    · -- what it waits for is told
      have hjl : listed.getD j false = true := by
        unfold relEdge at hj
        rw [ho] at hj
        simp only [Option.map_some, Option.getD_some, Array.any_eq_true', Bool.and_eq_true, beq_iff_eq] at hj
        obtain ⟨e, he, hb, rfl⟩ := hj
        have := hedge e he
        rw [hb] at this
        simpa using this
      by_cases hjL : ∃ d s, (j, d, s) ∈ L
      · obtain ⟨d2, s2, hm2⟩ := hjL
        rw [RelL.of_mem hA hm2]
        obtain ⟨h1, h2⟩ := hat _ hm2 hjl
        exact ⟨h1, fun hk => h2 i hk hunf⟩
      · rw [RelL.of_none (fun d s h => hjL ⟨d, s, h⟩)]
        exact ⟨trivial, fun hk => by cases hk⟩
    · have hxb : Ext B w' := by
        rcases hT with h | h
        · exact hx.trans h
        · exact h.1
      have hrows : ∀ x xs, Row1 w x xs → Row1 w' x xs := by
        rcases hT with h | h
        · exact fun x xs hr => hr.below h
        · exact h.2.1
      refine hK' _ _ ⟨hxb, ?_⟩
      rw [putsR_put v L a hA hm]
      refine ih _ _ _ (by rw [Array.size_setIfInBounds]; exact hs) (count_less hs hin hun hc) ?_ hlt hxb ?_
      · intro k hk hkf
        rw [getD_set (by omega)] at hkf
        split at hkf
        · cases hkf
        · exact hsub k hk hkf
      · intro x hmx hl
        rw [getD_set (by omega)] at hl
        by_cases hxi : x.1 = i
        · obtain ⟨xi, xd, xs⟩ := x
          simp only at hxi
          subst hxi
          obtain rfl := RelL.uniq hA hm hmx
          rw [show updR u xi v xi = v from if_pos rfl]
          exact ⟨hp.1, fun k hk _ => hp.2 (by rw [hk]; rfl)⟩
        · rw [if_neg hxi] at hl
          rw [show updR u i v x.1 = u x.1 from if_neg hxi]
          obtain ⟨h1, h2⟩ := hat x hmx hl
          refine ⟨x.2.2.hp _ _ _ h1 hrows, fun k hk hkf => ?_⟩
          have hkf : (listed.setIfInBounds i true).getD k false = false := hkf
          rw [getD_set (by omega)] at hkf
          split at hkf
          · cases hkf
          · rename_i hki
            have hq := h2 k hk hkf
            rcases hT with h | h
            · exact x.2.2.hq _ _ _ hq h
            · have := List.all_eq_true.1 h.2.2 x hmx
              rw [hk] at this
              simp at this
              exact absurd this hki
/-- THE WALK: each operation that is left, once. -/
theorem wpAnyH_rel {B : World} {fuel : Nat} {listed : Array Bool} {a : Act} {w : World} (L : RelL) (hx : Ext B w)
    (ob : ∀ u, RelOb P md ops Q B L u (putsR u L a) L)
    (fin : ∀ u w, Ext B w → (∀ j, (L.of j).p (u j) w ∧ ∀ k, (L.of j).k = some k → ops.size ≤ k → (L.of j).q (u j) w) → Q .normal (putsR u L a) w)
    (hf : ((List.range ops.size).filter (fun i => !listed.getD i true) == L.map (·.1)) = true := by kernel_rfl) (hs : listed.size = ops.size := by kernel_rfl) (hfl : L.length = fuel := by rfl) (hA : RelL.apart L = true := by kernel_rfl)
    (hdag : ((L.map (·.1)).all fun i => ((ops[i]?).map fun o => o.after.all fun e => !Region.binds md e || decide (e.on < i)).getD false) = true := by kernel_rfl) :
    wpAnyH P md ops Q (fun w' => Ext B w') fuel listed a w := by
  have hf : (List.range ops.size).filter (fun i => !listed.getD i true) = L.map (·.1) := by simpa using hf
  have mem : ∀ i, i ∈ L.map (·.1) ↔ i < ops.size ∧ listed.getD i true = false := fun i => by
    rw [← hf, List.mem_filter, List.mem_range]
    simp
  have inL : ∀ i, i ∈ L.map (·.1) → ∃ d s, (i, d, s) ∈ L := fun i h => by
    obtain ⟨⟨i', d, s⟩, hm, rfl⟩ := List.mem_map.1 h
    exact ⟨d, s, hm⟩
  have hself := putsR_self a L (fun i => match L.find? (fun x => x.1 == i) with | some x => (match x.2.1 with | some d => a.tmps.getD d undef | none => undef) | none => undef) (fun x hm => by
    obtain ⟨i, d, s⟩ := x
    have : L.find? (fun x => x.1 == i) = some (i, d, s) := by
      have h2 : ∀ {L : RelL}, RelL.apart L = true → (i, d, s) ∈ L → L.find? (fun x => x.1 == i) = some (i, d, s) := by
        intro L
        induction L with
        | nil => intro _ h; cases h
        | cons x r ih =>
          intro hA h
          unfold RelL.apart at hA
          rw [Bool.and_eq_true] at hA
          rcases List.mem_cons.1 h with e | e
          · subst e
            simp
          · have hne : i ≠ x.1 := by
              have := List.all_eq_true.1 hA.1 _ e
              simp at this
              exact this.1
            rw [List.find?_cons_of_neg (by simpa using fun e2 => hne e2.symm)]
            exact ih hA.2 e
      exact h2 hA hm
    simp only [this])
  rw [← hself]
  have fin2 : ∀ u w, Ext B w → (∀ x ∈ L, x.2.2.p (u x.1) w ∧ ∀ k, x.2.2.k = some k → ops.size ≤ k → x.2.2.q (u x.1) w) → Q .normal (putsR u L a) w := fun u w hx hp => fin u w hx (fun j => by
    by_cases hj : ∃ d s, (j, d, s) ∈ L
    · obtain ⟨d, s, hm⟩ := hj
      rw [RelL.of_mem hA hm]
      exact hp _ hm
    · rw [RelL.of_none (fun d s h => hj ⟨d, s, h⟩)]
      exact ⟨trivial, fun k hk => by cases hk⟩)
  refine rel_go hA (fun x hm => ?_) ob fin2 fuel listed _ w hs (by rw [hf, List.length_map]; exact hfl) (fun i hi hu => inL i ((mem i).2 ⟨hi, hu⟩)) (fun x hm => ((mem x.1).1 (List.mem_map.2 ⟨x, hm, rfl⟩)).1) hx (fun x hm hl => ?_)
  · have h := List.all_eq_true.1 hdag x.1 (List.mem_map.2 ⟨x, hm, rfl⟩)
    cases ho : ops[x.1]? with
    | none => rw [ho] at h; cases h
    | some o =>
      rw [ho] at h
      simp only [Option.map_some, Option.getD_some] at h
      rw [Array.all_eq_true_iff_forall_mem] at h
      refine ⟨o, rfl, fun e he hb => ?_⟩
      have := h e he
      rw [hb] at this
      simpa using this
  · have h1 := (mem x.1).1 (List.mem_map.2 ⟨x, hm, rfl⟩)
    rw [getD_in (by omega)] at h1
    rw [h1.2] at hl
    cases hl
end

end Go.Proofs.Ytjnnhkodkbhbbaa

/- The mark that the conversion of a constant's bytes leaves behind a new row. Nothing here speaks of a program. Each theorem names its own conditions. -/
namespace Go.Proofs.Ytjnnhkodkbhbbaa
open Go.RowKit
set_option linter.unusedVariables false

theorem freeze_grown (w : World) (a : Addr) (n : Nat) : w.grownBy (w.freeze a n) (some a.block) := by
  unfold World.freeze
  split
  · exact ⟨rfl, rfl, rfl, Nat.le_refl _, fun _ _ _ => rfl⟩
  · refine ⟨rfl, rfl, rfl, by simp, fun k hk hne => ?_⟩
    have h : a.block ≠ k := fun e => hne (by rw [e])
    simp [Array.getElem?_modify, h]
theorem freeze_cell (w : World) (a b : Addr) (n : Nat) : (w.freeze a n).cell? b = w.cell? b := by
  unfold World.freeze
  split
  · rfl
  · unfold World.cell?
    simp only [Array.getElem?_modify]
    by_cases h : a.block = b.block
    · rw [if_pos h]
      cases e : w.heap[b.block]? with
      | none => rfl
      | some o => cases o <;> rfl
    · rw [if_neg h]
theorem freeze_row {w : World} {v : Value} {vs : List Value} (h : Row1 w v vs) (a : Addr) (n : Nat) : Row1 (w.freeze a n) v vs :=
  h.same (freeze_grown w a n).size fun p _ _ => freeze_cell w a p n
/-- '[]byte("..")' of a constant, wherever its row stands. -/
theorem run_mark_own {P : Program} {w : World} {t e : TypeId} {base g n cap : Nat} {xs : List Value} (ht : P.underlying t = some (.slice e)) (he : P.underlying e = some (.int .u8)) (h : w.ownsRow base e 1 (.slice (some ⟨g, 0, none⟩) n cap) n xs) :
    ∃ w', (convert t t (.slice (some ⟨g, 0, none⟩) n cap)).run P w = .ok (.slice (some ⟨g, 0, none⟩) n cap) w' ∧ w.grownBy w' (some g) ∧ base ≤ g ∧ ∀ v vs, Row1 w v vs → Row1 w' v vs := by
  rcases h.2 with ⟨h1, _⟩ | ⟨g', cap', cur, hv, hb, hg, _⟩
  · exact absurd h1 (by simp)
  · injection hv with e1 e2 e3
    injection e1 with e1
    injection e1 with e1
    subst e1
    have hsh : w.shape? g = some (e, cur.size) := by
      unfold World.shape?
      rw [hg]
    refine ⟨w.freeze ⟨g, cur.size, none⟩ 1, ?_, freeze_grown w _ _, hb, fun v vs hr => freeze_row hr _ _⟩
    simp [convert, run_underlying ht, run_underlying he, markStringish, hsh]
theorem own_ne_blk {w : World} {base size g n m cap c : Nat} {e t : TypeId} {xs cs : List Value} (h : w.ownsRow base e size (.slice (some ⟨g, 0, none⟩) n cap) m xs) (hb : Blk w c cs t) (hne : e ≠ t) : g ≠ c := by
  intro hgc
  subst hgc
  rcases h.2 with ⟨h1, _⟩ | ⟨g', cap', cur, hv, _, hg, _⟩
  · exact absurd h1 (by simp)
  · injection hv with e1 e2 e3
    injection e1 with e1
    injection e1 with e1
    subst e1
    unfold Blk at hb
    rw [hb] at hg
    injection hg with hg
    injection hg with _ h2 _
    exact hne h2.symm

end Go.Proofs.Ytjnnhkodkbhbbaa

/- What single operations owe in a region that is walked once (XRelKit): a slice built, a constant's bytes marked, a value assigned. Nothing here speaks of a program. Each theorem names its own conditions. -/
namespace Go.Proofs.Ytjnnhkodkbhbbaa
open Go.RowKit
set_option linter.unusedVariables false
set_option linter.unusedSimpArgs false

section
variable {P : Program} {ops : Array Oper} {Q : Exit → Act → World → Prop} {o : Oper} {a : Act} {w : World} {K : Act → World → Prop}
theorem ob_build {d : Option Nat} (t e : TypeId) (len : Nat) (parts : Array (Nat × Operand)) (cells : List Value) (ie : TypeInfo) (z : Value) (hu : P.underlying t = some (.slice e)) (hie : P.info? e = some ie) (hz : ie.zero = some z) (h1 : ie.size = 1)
    (hK : ∀ v w', Ext w w' → Row1 w' v cells → w'.ownsRow w.heap.size e 1 v len cells → K (a.put d v) w')
    (hf : Instr.fill (fun i => some (i * ie.size, ie.size)) ((Array.range (len * ie.size)).map (z.cells[· % z.cells.size]!)) (parts.map fun (i, x) => (i, a.eval x)).toList = some cells.toArray)
    (hw : Region.wanted o (yielded ops a.tmps) = true) (hd : o.dst = d) (ho : o.op = .buildSlice t len parts) (hl : cells.length = len) (hs : 0 < len ∧ len ≤ 1000000) :
    if Region.wanted o (yielded ops a.tmps) = true then o.wp P a w K Q else K (a.put d undef) w := by
  rw [if_pos hw]
  refine wp_buildSlice_d d t e len parts hd ho cells.toArray ie z hu hie hz (by rw [h1]; omega) (by rw [h1]; omega) hf ?_
  refine hK _ _ (Ext.alloc _ _) ?_ ?_
  · exact Row1.made w cells.toArray e _ _ _ rfl rfl hl (by unfold maxLen; omega)
  · exact own_made _ _ _ _ _ _ rfl hl (by unfold maxLen; omega) (Nat.le_refl _)
theorem ob_assign {d : Option Nat} (x : Operand) (v : Value) (hK : K (a.put d v) w) (hw : Region.wanted o (yielded ops a.tmps) = true) (hd : o.dst = d) (ho : o.op = .assign x) (hx : a.eval x = v) :
    if Region.wanted o (yielded ops a.tmps) = true then o.wp P a w K Q else K (a.put d undef) w := by
  rw [if_pos hw]
  subst hd hx
  unfold Oper.wp execOp
  simpa [ho, Oper.upon] using hK
theorem ob_mark {d : Option Nat} (x : Operand) (t e : TypeId) {base n : Nat} {v : Value} {xs : List Value} (ht : P.underlying t = some (.slice e)) (he : P.underlying e = some (.int .u8)) (h : w.ownsRow base e 1 v n xs) (hn : 0 < n)
    (hK : ∀ g w', w.grownBy w' (some g) → base ≤ g → (∀ x xs, Row1 w x xs → Row1 w' x xs) → K (a.put d v) w') (hw : Region.wanted o (yielded ops a.tmps) = true) (hd : o.dst = d) (ho : o.op = .convert t t x) (hx : a.eval x = v) :
    if Region.wanted o (yielded ops a.tmps) = true then o.wp P a w K Q else K (a.put d undef) w := by
  rw [if_pos hw]
  have hf : ∃ g cap, v = .slice (some ⟨g, 0, none⟩) n cap := by
    rcases h.2 with ⟨_, h0⟩ | ⟨g, cap, cur, hv, _⟩
    · omega
    · exact ⟨g, cap, hv⟩
  obtain ⟨g, cap, rfl⟩ := hf
  obtain ⟨w', hc, hg, hb, hr⟩ := run_mark_own ht he h
  exact wp_conv_d d t t x _ _ _ hd ho hx hc (hK g w' hg hb hr)
end
theorem rel_row_form {w : World} {v : Value} {vs : List Value} (h : Row1 w v vs) : ∃ a n c, v = .slice a n c := by
  obtain ⟨a, c, rfl, _⟩ := h
  exact ⟨_, _, _, rfl⟩

end Go.Proofs.Ytjnnhkodkbhbbaa

/- A row of the call's own: its length, its form. Nothing here speaks of a program. Each theorem names its own conditions. -/
namespace Go.Proofs.Ytjnnhkodkbhbbaa
open Go.RowKit
set_option linter.unusedVariables false
set_option linter.unusedSimpArgs false

/-- A slice's length. -/
def lenOf : Value → Nat
  | .slice _ n _ => n
  | _ => 0

theorem ownRow_len {w : World} {base : Nat} {e : TypeId} {n : Nat} {x : Value} {xs : List Value} (h : w.ownsRow base e 1 x n xs) : lenOf x = n := by
  obtain ⟨_, ⟨rfl, rfl⟩ | ⟨g, cap, cur, rfl, _⟩⟩ := h
  · rfl
  · rfl
theorem own_eq {w : World} {base : Nat} {e : TypeId} {n m : Nat} {x : Value} {xs ys : List Value} (h : w.ownsRow base e 1 x n xs) (hn : n = m) (hx : xs = ys) : w.ownsRow base e 1 x m ys := by
  subst hn; subst hx
  exact h

/-- A row of the call's own was appended to: what lies below its base stands. -/
theorem below_own {a b d : World} {base : Nat} {e : TypeId} {n : Nat} {x : Value} {xs : List Value} (h : Below base a b) (ho : b.ownsRow base e 1 x n xs) (hg : b.grownBy d x.ownBlock) (hb : base ≤ b.heap.size) : Below base a d :=
  Below.grown h hg hb (fun r hr => by
    obtain ⟨_, h1 | ⟨g, cap, cur, rfl, h2, _⟩⟩ := ho
    · obtain ⟨rfl, _⟩ := h1
      cases hr
    · cases hr
      exact h2)

/-- One cell of a row of the call's own is read, and written. -/
theorem own_put {w : World} {base : Nat} {e : TypeId} {n : Nat} {x : Value} {xs : List Value} (h : w.ownsRow base e 1 x n xs) (k : Nat) (hk : k < n) :
    ∃ g cap, x = .slice (some ⟨g, 0, none⟩) n cap ∧ base ≤ g ∧ g < w.heap.size ∧ w.cell? ⟨g, k, none⟩ = xs[k]? ∧ w.frozen? ⟨g, k, none⟩ = false ∧ ∀ u, (w.setCell ⟨g, k, none⟩ u).ownsRow base e 1 x n (xs.set k u) := by
  obtain ⟨hl, h1 | ⟨g, cap, cur, rfl, h2, h3, h4, h5, h6, h7⟩⟩ := h
  · omega
  · rw [Nat.mul_one] at hl h6 h7
    have hB : Blk w g cur.toList e := by
      show w.heap[g]? = some (.cells cur.toList.toArray e (0, 0))
      rw [Array.toArray_toList]
      exact h3
    refine ⟨g, cap, rfl, h2, hB.lt, ?_, hB.free k, fun u => ⟨by rw [List.length_set, Nat.mul_one]; exact hl, Or.inr ⟨g, cap, cur.setIfInBounds k u, rfl, h2, heap_setCell_same w g k cur e u h3, h4, h5, by simp; omega, ?_⟩⟩⟩
    · rw [hB.cell, ← h7, List.getElem?_take, if_pos hk]
    · rw [Nat.mul_one, Array.toList_setIfInBounds, List.take_set, h7]

end Go.Proofs.Ytjnnhkodkbhbbaa

/- What the walks of RefAea1 need and no function of the document. Each theorem names its own conditions. -/
namespace Go.Proofs.Ytjnnhkodkbhbbaa
open Go.RowKit
set_option linter.unusedVariables false
set_option linter.unusedSimpArgs false

def fA (l : List UInt8) (k : Nat) : List UInt8 := l ++ List.replicate k 0
theorem fA_succ (l : List UInt8) (k : Nat) : fA l (k + 1) = fA l k ++ [0] := by
  unfold fA
  rw [List.replicate_succ', List.append_assoc]
theorem fA_length (l : List UInt8) (k : Nat) : (fA l k).length = l.length + k := by simp [fA]
theorem fA_full (l : List UInt8) : fA l ((16 - l.length % 16) % 16) = l ++ z16 l.length := rfl
/-- The first k bytes of a number. -/
theorem bytesN_succ : ∀ (k n : Nat), bytesN (k + 1) n = bytesN k n ++ [UInt8.ofNat (n / 256 ^ k % 256)] := fun k n => by
  have h := bytesN_append k 1 n
  rw [h]
  congr 1

end Go.Proofs.Ytjnnhkodkbhbbaa

/- The walks of the document's own filled and length. Each theorem names its own conditions. -/
namespace Go.Proofs.Ytjnnhkodkbhbbaa
open Go.RowKit
set_option linter.unusedVariables false
set_option linter.unusedSimpArgs false

set_option maxRecDepth 100000 in
set_option maxHeartbeats 4000000 in
theorem rFilled_any (v : Value) (l : List UInt8) (base : Nat) (w : World) (hv : w.ownsRow base 5 1 v l.length (l.map bval)) (hb : base ≤ w.heap.size) (hl : l.length ≤ 1099511627776) :
    Calls Try.prog 45 #[v] w fun e w' => ∃ x, e = .returned x ∧ w'.ownsRow base 5 1 x (l ++ z16 l.length).length ((l ++ z16 l.length).map bval) ∧ Below base w w' := by
  obtain ⟨i0, hi, hz0, hz1, hz2⟩ := info_parts Try.info5
  have HI0 := Lib.hid hi
  have HZ0 := Lib.hid hz0
  have HZ1 := Lib.hid hz1
  have HZ2 := Lib.hid hz2
  have HO0 : Hid (w.ownsRow base 5 1 v (fA l 0).length ((fA l 0).map bval)) := Lib.hid (by simpa [fA] using hv)
  have HBS := Lib.hid hb
  have HFF := Lib.hid (fA_full l)
  clear hv hb hi hz0 hz1 hz2
  go_enter Try.func45, Try.ntmps45
  go_wp2_with fail
  go_loopw [0] (fun x wr => ∃ (k : Nat), k ≤ (16 - l.length % 16) % 16 ∧ wr.ownsRow base 5 1 x (fA l k).length ((fA l k).map bval) ∧ Below base w wr) (fun x _ => l.length + 16 - lenOf x)
  case atStart => exact ⟨0, by omega, HO0.out, Below.refl _ _⟩
  case round =>
    clear HO0
    obtain ⟨k, hk, ho, hE⟩ := hrel
    obtain ⟨a2, cap2, rfl, s1, s2, _⟩ := id (Row1.of_own ho)
    have hpl := fA_length l k
    have HO := Lib.hid ho
    have HE := Lib.hid hE
    rw [List.length_map, hpl] at s1 HO ⊢
    unfold maxLen at s2
    clear ho hE
    by_cases hkn : k = (16 - l.length % 16) % 16
    · have hd : (((l.length + k : Nat) : Int) % 16 != 0) = false := by simp; omega
      have HK : Hid (fA l k = l ++ z16 l.length) := Lib.hid (by rw [hkn]; exact HFF.out)
      have HN : Hid (l.length + k = (l ++ z16 l.length).length) := Lib.hid (by rw [← HK.out, hpl])
      clear hpl hkn s1 s2 hk
      generalize l.length + k = n at *
      go_wp2_with fail
      go_ret
      exact ⟨_, rfl, own_eq HO.out HN.out (by rw [HK.out]), HE.out⟩
    · have hd : (((l.length + k : Nat) : Int) % 16 != 0) = true := by simp; omega
      have HS := Lib.hid HE.out.size
      have HK : Hid (k < (16 - l.length % 16) % 16) := Lib.hid (by omega)
      generalize hn : l.length + k = n at *
      have HN := Lib.hid hn
      have hn9 : n ≤ 1099511627900 := by omega
      clear hn hpl hkn hk
      go_wp2_with (at_builtin; refine wpList_append_row rfl _ _ 22 rfl base 5 i0 (.int .u8 0) 1 Try.underlying22 HI0.out HZ0.out HZ1.out HZ2.out rfl _ n _ rfl (HO.out.alloc _) rfl (Row1.made _ #[.int .u8 0] _ _ 1 ([0].map bval) rfl rfl rfl (by unfold maxLen; omega)) (bval_one _) (by unfold maxLen; simp; omega) (by simp; omega) (by simp; have := HS.out; have := HBS.out; omega) ?_; intro v3 w3 hown3 hgrow3)
      go_roundw
      case rel =>
        refine ⟨k + 1, HK.out, own_eq hown3 (by rw [fA_length, ← HN.out]; simp; omega) (by rw [fA_succ, List.map_append]), below_own (HE.out.trans (Below.mono (Ext.alloc wr (.cells #[.int .u8 0] 5)) (by have := HS.out; have := HBS.out; omega))) (HO.out.alloc _) hgrow3 (by simp; have := HS.out; have := HBS.out; omega)⟩
      case measure =>
        rw [ownRow_len hown3]
        have := HN.out
        have := HK.out
        simp [lenOf]
        omega
set_option maxRecDepth 100000 in
set_option maxHeartbeats 4000000 in
theorem rLength_any (n : Nat) (w : World) (hn : n ≤ 1099511627776) :
    Calls Try.prog 46 #[.int .i64 (n : Int)] w fun e w' => ∃ x, e = .returned x ∧ w'.ownsRow w.heap.size 5 1 x 8 ((bytesN 8 n).map bval) ∧ Below w.heap.size w w' := by
  obtain ⟨i0, hi, hz0, hz1, hz2⟩ := info_parts Try.info5
  have HI0 := Lib.hid hi
  have HZ0 := Lib.hid hz0
  have HZ1 := Lib.hid hz1
  have HZ2 := Lib.hid hz2
  have HO0 : Hid (w.ownsRow w.heap.size 5 1 (.slice none 0 0) 0 ((bytesN 0 n).map bval)) := Lib.hid (World.ownsRow_nil _ _ _ _)
  clear hi hz0 hz1 hz2
  go_enter Try.func46, Try.ntmps46
  go_wp2_with fail
  go_loopw [3, 4] (fun x iv wr => ∃ (k : Nat), k ≤ 8 ∧ iv = .int .i64 (k : Int) ∧ wr.ownsRow w.heap.size 5 1 x k ((bytesN k n).map bval) ∧ Ext w wr) (fun _ iv _ => 8 - (intOf iv).toNat)
  case atStart => exact ⟨0, by omega, rfl, HO0.out, Ext.refl _⟩
  case round =>
    clear HO0
    obtain ⟨k, hk, rfl, ho, hE⟩ := hrel
    have k0 : (0 : Int) ≤ (k : Int) := Int.natCast_nonneg _
    have HO := Lib.hid ho
    have HE := Lib.hid hE
    have HS := Lib.hid hE.size
    by_cases hk8 : k < 8
    · have k1 : (k : Int) < 8 := by omega
      have HBS := Lib.hid (bytesN_succ k n)
      obtain ⟨s, hs⟩ : ∃ s : Nat, s = 8 * k := ⟨_, rfl⟩
      have hs2 : 8 * (k : Int) = (s : Int) := by omega
      have s64 : (s : Int) < 64 := by omega
      have s0 : (0 : Int) ≤ (s : Int) := by omega
      have e1 : (2 : Int) ^ s = ((256 ^ k : Nat) : Int) := by rw [hs, Int.pow_mul]; simp
      have hv2 : (n : Int) / 2 ^ s = ((n / 256 ^ k : Nat) : Int) := by rw [e1, ← Int.natCast_ediv]
      have hvb : n / 256 ^ k ≤ n := Nat.div_le_self _ _
      have hq : ((UInt8.ofNat (n / 256 ^ k % 256)).toNat : Int) = ((n / 256 ^ k : Nat) : Int) % 256 := by rw [UInt8.toNat_ofNat']; omega
      generalize UInt8.ofNat (n / 256 ^ k % 256) = c at *
      generalize n / 256 ^ k = q at *
      have hm := and_i64_255 (q : Int) (by omega) (by omega)
      have HBV : Hid (bval c = .int .u8 ((q : Int) % 256)) := Lib.hid (by unfold bval; rw [hq])
      clear ho hE hs hq e1
      go_wp2_with (at_builtin; refine wpList_append_row rfl _ _ 22 rfl w.heap.size 5 i0 (.int .u8 0) 1 Try.underlying22 HI0.out HZ0.out HZ1.out HZ2.out rfl _ k _ rfl (HO.out.alloc _) rfl (Row1.made _ #[.int .u8 ((q : Int) % 256)] _ _ 1 [.int .u8 ((q : Int) % 256)] rfl rfl rfl (by unfold maxLen; omega)) (by intro u hu; simp at hu; subst hu; rfl) (by unfold maxLen; simp; omega) (by simp; omega) (by simp; have := HS.out; omega) ?_; intro v3 w3 hown3 hgrow3)
      go_roundw
      case rel =>
        refine ⟨k + 1, by omega, by go_num, own_eq hown3 (by simp) (by rw [HBS.out, List.map_append, List.map_cons, List.map_nil, HBV.out]), ext_own (HE.out.trans (Ext.alloc wr _)) (HO.out.alloc _) (Nat.le_refl _) hgrow3⟩
      case measure => simp [intOf]; omega
    · have hk8' : k = 8 := by omega
      subst hk8'
      clear ho hE
      go_wp2_with fail
      go_ret
      exact ⟨_, rfl, HO.out, HE.out⟩
end Go.Proofs.Ytjnnhkodkbhbbaa

/- The walk of the document's own four bytes as a word, the lowest first. Each theorem names its own conditions. -/
namespace Go.Proofs.Ytjnnhkodkbhbbaa
open Go.RowKit
set_option linter.unusedVariables false
set_option linter.unusedSimpArgs false

set_option maxHeartbeats 2000000 in
/-- A word is read off four bytes of a block. -/
theorem little_any (c off len cap : Nat) (cs : List UInt8) (t : TypeId) (w : World) (hb : Blk w c (cs.map bval) t) (hl : off + 4 ≤ cs.length) (h4 : 4 ≤ len) :
    Calls Try.prog 61 #[.slice (some ⟨c, off, none⟩) len cap] w fun e w' => e = .returned (.int .u32 (wi (leW cs off))) ∧ w' = w.drew := by
  have cc : ∀ j, j ≤ 3 → w.cell? ⟨c, off + j, none⟩ = some (.int .u8 ((cs.getD (off + j) 0).toNat : Int)) := fun j hj => by
    rw [hb.cell, bval_get (by omega)]
  have c0 := cc 0 (by omega)
  have c1 := cc 1 (by omega)
  have c2 := cc 2 (by omega)
  have c3 := cc 3 (by omega)
  simp only [Nat.add_zero] at c0
  have d0 := UInt8.toNat_lt (cs.getD off 0)
  have d1 := UInt8.toNat_lt (cs.getD (off + 1) 0)
  have d2 := UInt8.toNat_lt (cs.getD (off + 2) 0)
  have d3 := UInt8.toNat_lt (cs.getD (off + 3) 0)
  have HBE : Hid (leW cs off = BitVec.ofNat 32 ((cs.getD off 0).toNat + 256 * (cs.getD (off + 1) 0).toNat + 65536 * (cs.getD (off + 2) 0).toNat + 16777216 * (cs.getD (off + 3) 0).toNat)) := Lib.hid rfl
  generalize (cs.getD off 0).toNat = x0 at *
  generalize (cs.getD (off + 1) 0).toNat = x1 at *
  generalize (cs.getD (off + 2) 0).toNat = x2 at *
  generalize (cs.getD (off + 3) 0).toNat = x3 at *
  clear cc hb hl
  have i0 : (0 : Int) < (len : Int) ∧ (1 : Int) < (len : Int) ∧ (2 : Int) < (len : Int) ∧ (3 : Int) < (len : Int) := by omega
  obtain ⟨i0, i1, i2, i3⟩ := i0
  go_enter Try.func61, Try.ntmps61
  go_wp2_with fail
  go_region
  go_wp2_with fail
  go_ret
  exact ⟨by rw [HBE.out, ← or4L x0 x1 x2 x3 d0 d1 d2 d3]; rfl, rfl⟩
end Go.Proofs.Ytjnnhkodkbhbbaa

/- The walk of the document's own block of ChaCha20. Each theorem names its own conditions. -/
namespace Go.Proofs.Ytjnnhkodkbhbbaa
open Go.RowKit
set_option linter.unusedVariables false
set_option linter.unusedSimpArgs false

theorem quarter_at (X : Nat) (s t : List W32) (a b c d : Nat) (ia ib ic id : Int) (w : World) (hX : Blk w X (ints .u32 (ws s)) 76) (hs : s.length = 16) (ha : ia = a) (hb : ib = b) (hc : ic = c) (hd : id = d) (ht : qrt s a b c d = t)
    (h : a < 16 ∧ b < 16 ∧ c < 16 ∧ d < 16 ∧ a ≠ b ∧ a ≠ c ∧ a ≠ d ∧ b ≠ c ∧ b ≠ d ∧ c ≠ d) :
    Calls Try.prog 62 #[.pointer (some ⟨X, 0, none⟩), .int .i64 ia, .int .i64 ib, .int .i64 ic, .int .i64 id] w fun e w' => e = .returned (.tuple #[]) ∧ Blk w' X (ints .u32 (ws t)) 76 ∧ w.grownBy w' (some X) := by
  subst ha hb hc hd ht
  obtain ⟨h1, h2, h3, h4, h5, h6, h7, h8, h9, h10⟩ := h
  exact quarter_any X s a b c d w hX hs h1 h2 h3 h4 h5 h6 h7 h8 h9 h10
set_option maxRecDepth 100000 in
set_option maxHeartbeats 16000000 in
theorem rBlock_any (kb nb : List UInt8) (c : Int) (w : World) (hk : kb.length = 32) (hn : nb.length = 12) (hc1 : -9223372036854775808 ≤ c) (hc2 : c ≤ 9223372036854775807) :
    Calls Try.prog 44 #[.agg (kb.map bval).toArray, .int .i64 c, .agg (nb.map bval).toArray] w fun e w' => e = .returned (.agg ((chaBlock kb (BitVec.ofInt 32 c) nb).map bval).toArray) ∧ Below w.heap.size w w' := by
  have HKL := Lib.hid hk
  have HNL := Lib.hid hn
  have HB := Lib.hid (boxes4 w (kb.map bval) (nb.map bval) (ints .u8 (List.replicate 64 0)) (ints .u32 (ws (List.replicate 16 0#32))) 34 44 68 76)
  have HA0 := Lib.hid (and_mask32 c hc1 hc2)
  have HC0 := Lib.hid (ctr_word c)
  obtain ⟨ctr, hctr⟩ : ∃ v, v = BitVec.ofInt 32 c := ⟨_, rfl⟩
  have HCTR := Lib.hid hctr
  rw [← hctr] at HC0
  clear hk hn hc1 hc2 hctr
  go_enter Try.func44, Try.ntmps44
  go_upto_region 2 with (fail)
  obtain ⟨H1, H2, H3, H4, HE⟩ := HB.out
  change Code.wp _ _ _ _ ((((w.alloc (.cells (kb.map bval).toArray 34)).alloc (.cells (nb.map bval).toArray 44)).alloc (.cells (ints .u8 (List.replicate 64 0)).toArray 68)).alloc (.cells (ints .u32 (ws (List.replicate 16 0#32))).toArray 76))
  generalize (((w.alloc (.cells (kb.map bval).toArray 34)).alloc (.cells (nb.map bval).toArray 44)).alloc (.cells (ints .u8 (List.replicate 64 0)).toArray 68)).alloc (.cells (ints .u32 (ws (List.replicate 16 0#32))).toArray 76) = wa at *
  obtain ⟨B, hB⟩ : ∃ B, B = w.heap.size := ⟨_, rfl⟩
  have HBW : Hid (w.heap.size ≤ B) := Lib.hid (by omega)
  rw [← hB] at H1 H2 H3 H4 ⊢
  have H1 := Lib.hid H1
  have H2 := Lib.hid H2
  have H3 := Lib.hid H3
  have H4 := Lib.hid H4
  have HE : Hid (Ext w wa) := Lib.hid HE
  clear hB HB
  obtain ⟨S, hS⟩ : ∃ S, S = B + 1 + 1 + 1 := ⟨_, rfl⟩
  have HSB : Hid (B + 3 ≤ S ∧ S ≤ B + 3) := Lib.hid (by omega)
  rw [← hS] at H4 ⊢
  clear hS
  obtain ⟨R, hR⟩ : ∃ R, R = B + 1 + 1 := ⟨_, rfl⟩
  have HRB : Hid (B + 2 ≤ R ∧ R ≤ B + 2) := Lib.hid (by omega)
  rw [← hR] at H3 ⊢
  clear hR
  have f0 := H4.out.free 0
  obtain ⟨u0, c0⟩ : ∃ u, wa.cell? ⟨S, 0, none⟩ = some u := ⟨_, word_cell H4.out (by simp)⟩
  have HX0 := Lib.hid (set_word H4.out 0 1634760805 0x61707865#32 rfl)
  have HEn := Lib.hid (far_ext (S := S) (i := 0) (v := .int .u32 1634760805) HE.out (by have := HBW.out; have := HSB.out; omega))
  have H1n := Lib.hid (H1.out.far (a := ⟨S, 0, none⟩) (by have := HSB.out; simp; omega) (.int .u32 1634760805))
  have H2n := Lib.hid (H2.out.far (a := ⟨S, 0, none⟩) (by have := HSB.out; simp; omega) (.int .u32 1634760805))
  have H3n := Lib.hid (H3.out.far (a := ⟨S, 0, none⟩) (by have := HSB.out; have := HRB.out; simp; omega) (.int .u32 1634760805))
  go_upto_region 3 with (fail)
  clear H1 H2 H3 H4 HE f0 c0
  generalize wa.setCell ⟨S, 0, none⟩ (.int .u32 1634760805) = wb0 at *
  have H1 := H1n
  have H2 := H2n
  have H3 := H3n
  have H4 := HX0
  have HE := HEn
  clear H1n H2n H3n HX0 HEn
  have f1 := H4.out.free 1
  obtain ⟨u1, c1⟩ : ∃ u, wb0.cell? ⟨S, 1, none⟩ = some u := ⟨_, word_cell H4.out (by simp)⟩
  have HX1 := Lib.hid (set_word H4.out 1 857760878 0x3320646e#32 rfl)
  have HEn := Lib.hid (far_ext (S := S) (i := 1) (v := .int .u32 857760878) HE.out (by have := HBW.out; have := HSB.out; omega))
  have H1n := Lib.hid (H1.out.far (a := ⟨S, 1, none⟩) (by have := HSB.out; simp; omega) (.int .u32 857760878))
  have H2n := Lib.hid (H2.out.far (a := ⟨S, 1, none⟩) (by have := HSB.out; simp; omega) (.int .u32 857760878))
  have H3n := Lib.hid (H3.out.far (a := ⟨S, 1, none⟩) (by have := HSB.out; have := HRB.out; simp; omega) (.int .u32 857760878))
  go_upto_region 4 with (fail)
  clear H1 H2 H3 H4 HE f1 c1
  generalize wb0.setCell ⟨S, 1, none⟩ (.int .u32 857760878) = wb1 at *
  have H1 := H1n
  have H2 := H2n
  have H3 := H3n
  have H4 := HX1
  have HE := HEn
  clear H1n H2n H3n HX1 HEn
  have f2 := H4.out.free 2
  obtain ⟨u2, c2⟩ : ∃ u, wb1.cell? ⟨S, 2, none⟩ = some u := ⟨_, word_cell H4.out (by simp)⟩
  have HX2 := Lib.hid (set_word H4.out 2 2036477234 0x79622d32#32 rfl)
  have HEn := Lib.hid (far_ext (S := S) (i := 2) (v := .int .u32 2036477234) HE.out (by have := HBW.out; have := HSB.out; omega))
  have H1n := Lib.hid (H1.out.far (a := ⟨S, 2, none⟩) (by have := HSB.out; simp; omega) (.int .u32 2036477234))
  have H2n := Lib.hid (H2.out.far (a := ⟨S, 2, none⟩) (by have := HSB.out; simp; omega) (.int .u32 2036477234))
  have H3n := Lib.hid (H3.out.far (a := ⟨S, 2, none⟩) (by have := HSB.out; have := HRB.out; simp; omega) (.int .u32 2036477234))
  go_upto_region 5 with (fail)
  clear H1 H2 H3 H4 HE f2 c2
  generalize wb1.setCell ⟨S, 2, none⟩ (.int .u32 2036477234) = wb2 at *
  have H1 := H1n
  have H2 := H2n
  have H3 := H3n
  have H4 := HX2
  have HE := HEn
  clear H1n H2n H3n HX2 HEn
  have f3 := H4.out.free 3
  obtain ⟨u3, c3⟩ : ∃ u, wb2.cell? ⟨S, 3, none⟩ = some u := ⟨_, word_cell H4.out (by simp)⟩
  have HX3 := Lib.hid (set_word H4.out 3 1797285236 0x6b206574#32 rfl)
  have HEn := Lib.hid (far_ext (S := S) (i := 3) (v := .int .u32 1797285236) HE.out (by have := HBW.out; have := HSB.out; omega))
  have H1n := Lib.hid (H1.out.far (a := ⟨S, 3, none⟩) (by have := HSB.out; simp; omega) (.int .u32 1797285236))
  have H2n := Lib.hid (H2.out.far (a := ⟨S, 3, none⟩) (by have := HSB.out; simp; omega) (.int .u32 1797285236))
  have H3n := Lib.hid (H3.out.far (a := ⟨S, 3, none⟩) (by have := HSB.out; have := HRB.out; simp; omega) (.int .u32 1797285236))
  go_upto_region 6 with (fail)
  clear H1 H2 H3 H4 HE f3 c3
  generalize wb2.setCell ⟨S, 3, none⟩ (.int .u32 1797285236) = wb3 at *
  have H1 := H1n
  have H2 := H2n
  have H3 := H3n
  have H4 := HX3
  have HE := HEn
  clear H1n H2n H3n HX3 HEn
  have H4 : Hid (Blk wb3 S (ints .u32 (ws (chaK kb 0))) 76) := Lib.hid H4.out
  go_wp2_with fail

  go_loopw [8] (fun iv wr => ∃ (k : Nat), k ≤ 8 ∧ iv = .int .i64 (k : Int) ∧ Blk wr B (kb.map bval) 34 ∧ Blk wr (B + 1) (nb.map bval) 44 ∧ Blk wr R (ints .u8 (List.replicate 64 0)) 68 ∧ Blk wr S (ints .u32 (ws (chaK kb k))) 76 ∧ Ext w wr) (fun iv _ => 8 - (intOf iv).toNat)
  case atStart => exact ⟨0, by omega, rfl, H1.out, H2.out, H3.out, H4.out, HE.out⟩
  case round =>
    clear H1 H2 H3 H4 HE
    obtain ⟨k, hk, rfl, hb1, hb2, hb3, hb4, hbel⟩ := hrel
    have k0 : (0 : Int) ≤ (k : Int) := Int.natCast_nonneg _
    by_cases hlk : k < 8
    · have k1 : (k : Int) < 8 := by omega
      have hs := cut_arrL Try.underlying34 Try.sizeOf5 wr (B) (4 * k) (by omega)
      have e4 : ((4 * k : Nat) : Int) = 4 * (k : Int) := by omega
      rw [e4] at hs
      have HW := Lib.hid (little_any (B) (4 * k) (32 - 4 * k) (32 - 4 * k) kb 34 wr hb1 (by have := HKL.out; omega) (by omega))
      have H1 := Lib.hid hb1
      have H2 := Lib.hid hb2
      have H3 := Lib.hid hb3
      have H4 := Lib.hid hb4
      have HE := Lib.hid hbel
      clear hb1 hb2 hb3 hb4 hbel e4
      go_wp2_with fail
      refine HW.out.mono ?_
      rintro e w5 ⟨rfl, rfl⟩
      have H1 : Hid (Blk wr.drew B (kb.map bval) 34) := Lib.hid H1.out
      have H2 : Hid (Blk wr.drew (B + 1) (nb.map bval) 44) := Lib.hid H2.out
      have H3 : Hid (Blk wr.drew R (ints .u8 (List.replicate 64 0)) 68) := Lib.hid H3.out
      have H4 : Hid (Blk wr.drew S (ints .u32 (ws (chaK kb k))) 76) := Lib.hid H4.out
      have HE : Hid (Ext w wr.drew) := Lib.hid (HE.out.trans (Ext.drew _))
      clear HW hs
      generalize wr.drew = w5 at *
      have f0 := H4.out.free (4 + k)
      obtain ⟨u, c0⟩ : ∃ u, w5.cell? ⟨S, 4 + k, none⟩ = some u := ⟨_, word_cell H4.out (by rw [chaK_length]; omega)⟩
      have i0 : (0 : Int) ≤ 4 + (k : Int) := by omega
      have i1 : (4 : Int) + (k : Int) < 16 := by omega
      have i2 : ((4 : Int) + (k : Int)).toNat = 4 + k := by omega
      have HX : Hid (Blk (w5.setCell ⟨S, 4 + k, none⟩ (.int .u32 (wi (leW kb (4 * k))))) S (ints .u32 (ws (chaK kb (k + 1)))) 76) := Lib.hid (set_word H4.out (4 + k) _ (leW kb (4 * k)) rfl)
      generalize leW kb (4 * k) = lw at *
      go_wp2_with fail
      go_roundw
      case rel => exact ⟨k + 1, by omega, by go_num, H1.out.far (by have := HSB.out; simp; omega) _, H2.out.far (by have := HSB.out; simp; omega) _, H3.out.far (by have := HSB.out; have := HRB.out; simp; omega) _, HX.out, far_ext HE.out (by have := HBW.out; have := HSB.out; omega)⟩
      case measure => simp [intOf]; omega
    · have hk8 : k = 8 := by omega
      subst hk8
      rw [show ((8 : Nat) : Int) = 8 from rfl]
      have H1 := Lib.hid hb1
      have H2 := Lib.hid hb2
      have H3 := Lib.hid hb3
      have H4 := Lib.hid hb4
      have HE := Lib.hid hbel
      clear hb1 hb2 hb3 hb4 hbel k0 hk
      have f0 := H4.out.free 12
      obtain ⟨u, c0⟩ : ∃ u, wr.cell? ⟨S, 12, none⟩ = some u := ⟨_, word_cell H4.out (by rw [chaK_length]; omega)⟩
      have HX : Hid (Blk (wr.setCell ⟨S, 12, none⟩ (.int .u32 (wi ctr))) S (ints .u32 (ws (chaN kb ctr nb 0))) 76) := Lib.hid (set_word H4.out 12 _ ctr rfl)
      have ha0 := HA0.out
      have hc0 := HC0.out
      have H1n := Lib.hid (H1.out.far (a := ⟨S, 12, none⟩) (by have := HSB.out; simp; omega) (.int .u32 (wi ctr)))
      have H2n := Lib.hid (H2.out.far (a := ⟨S, 12, none⟩) (by have := HSB.out; simp; omega) (.int .u32 (wi ctr)))
      have H3n := Lib.hid (H3.out.far (a := ⟨S, 12, none⟩) (by have := HSB.out; have := HRB.out; simp; omega) (.int .u32 (wi ctr)))
      have HEn : Hid (Ext w (wr.setCell ⟨S, 12, none⟩ (.int .u32 (wi ctr)))) := Lib.hid (far_ext HE.out (by have := HBW.out; have := HSB.out; omega))
      go_upto_region 11 with (fail)
      clear H1 H2 H3 H4 HE f0 c0 ha0 hc0
      generalize wr.setCell ⟨S, 12, none⟩ (.int .u32 (wi ctr)) = w6 at *
      have H1 := H1n
      have H2 := H2n
      have H3 := H3n
      have H4 := HX
      have HE := HEn
      clear H1n H2n H3n HX HEn
      go_wp2_with fail
      go_loopw [9] (fun iv wr => ∃ (k : Nat), k ≤ 3 ∧ iv = .int .i64 (k : Int) ∧ Blk wr B (kb.map bval) 34 ∧ Blk wr (B + 1) (nb.map bval) 44 ∧ Blk wr R (ints .u8 (List.replicate 64 0)) 68 ∧ Blk wr S (ints .u32 (ws (chaN kb ctr nb k))) 76 ∧ Ext w wr) (fun iv _ => 3 - (intOf iv).toNat)
      case atStart => exact ⟨0, by omega, rfl, H1.out, H2.out, H3.out, H4.out, HE.out⟩
      case round =>
        clear H1 H2 H3 H4 HE
        obtain ⟨k, hk, rfl, hb1, hb2, hb3, hb4, hbel⟩ := hrel
        have k0 : (0 : Int) ≤ (k : Int) := Int.natCast_nonneg _
        by_cases hlk : k < 3
        · have k1 : (k : Int) < 3 := by omega
          have hs := cut_arrL Try.underlying44 Try.sizeOf5 wr ((B + 1)) (4 * k) (by omega)
          have e4 : ((4 * k : Nat) : Int) = 4 * (k : Int) := by omega
          rw [e4] at hs
          have HW := Lib.hid (little_any ((B + 1)) (4 * k) (12 - 4 * k) (12 - 4 * k) nb 44 wr hb2 (by have := HNL.out; omega) (by omega))
          have H1 := Lib.hid hb1
          have H2 := Lib.hid hb2
          have H3 := Lib.hid hb3
          have H4 := Lib.hid hb4
          have HE := Lib.hid hbel
          clear hb1 hb2 hb3 hb4 hbel e4
          go_wp2_with fail
          refine HW.out.mono ?_
          rintro e w5 ⟨rfl, rfl⟩
          have H1 : Hid (Blk wr.drew B (kb.map bval) 34) := Lib.hid H1.out
          have H2 : Hid (Blk wr.drew (B + 1) (nb.map bval) 44) := Lib.hid H2.out
          have H3 : Hid (Blk wr.drew R (ints .u8 (List.replicate 64 0)) 68) := Lib.hid H3.out
          have H4 : Hid (Blk wr.drew S (ints .u32 (ws (chaN kb ctr nb k))) 76) := Lib.hid H4.out
          have HE : Hid (Ext w wr.drew) := Lib.hid (HE.out.trans (Ext.drew _))
          clear HW hs
          generalize wr.drew = w5 at *
          have f0 := H4.out.free (13 + k)
          obtain ⟨u, c0⟩ : ∃ u, w5.cell? ⟨S, 13 + k, none⟩ = some u := ⟨_, word_cell H4.out (by rw [chaN_length]; omega)⟩
          have i0 : (0 : Int) ≤ 13 + (k : Int) := by omega
          have i1 : (13 : Int) + (k : Int) < 16 := by omega
          have i2 : ((13 : Int) + (k : Int)).toNat = 13 + k := by omega
          have HX : Hid (Blk (w5.setCell ⟨S, 13 + k, none⟩ (.int .u32 (wi (leW nb (4 * k))))) S (ints .u32 (ws (chaN kb ctr nb (k + 1)))) 76) := Lib.hid (set_word H4.out (13 + k) _ (leW nb (4 * k)) rfl)
          generalize leW nb (4 * k) = lw at *
          go_wp2_with fail
          go_roundw
          case rel => exact ⟨k + 1, by omega, by go_num, H1.out.far (by have := HSB.out; simp; omega) _, H2.out.far (by have := HSB.out; simp; omega) _, H3.out.far (by have := HSB.out; have := HRB.out; simp; omega) _, HX.out, far_ext HE.out (by have := HBW.out; have := HSB.out; omega)⟩
          case measure => simp [intOf]; omega
        · have hk8 : k = 3 := by omega
          subst hk8
          rw [show ((3 : Nat) : Int) = 3 from rfl]
          have H1 := Lib.hid hb1
          have H2 := Lib.hid hb2
          have H3 := Lib.hid hb3
          have H4 := Lib.hid hb4
          have HE := Lib.hid hbel
          clear hb1 hb2 hb3 hb4 hbel k0 hk
          rw [chaN_full] at H4
          have HSL := Lib.hid (chaInit_length kb ctr nb)
          have HFIN : Hid (leB (wAdd (dRun (chaInit kb ctr nb) 10) (chaInit kb ctr nb)) 64 = chaBlock kb (BitVec.ofInt 32 c) nb) := Lib.hid (by rw [← HCTR.out]; rfl)
          generalize chaInit kb ctr nb = s at *
          have HZ := Lib.hid (Blk.made wr (ints .u32 (ws (List.replicate 16 0#32))) 76)
          have HXA := Ext.alloc wr (.cells (ints .u32 (ws (List.replicate 16 0#32))).toArray 76)
          have H3 := Lib.hid (ext_blk H3.out HXA)
          have HXS := Lib.hid HE.out.size
          have HLS := Lib.hid H4.out.lt
          have HLR : Hid (R < wr.heap.size) := Lib.hid (by have := HSB.out; have := HRB.out; have := H4.out.lt; omega)
          have H4a := Lib.hid (ext_blk H4.out HXA)
          have HE := Lib.hid (HE.out.trans HXA)
          have HIs : Hid ((Try.prog.info? 76).map (·.size) = some (ints .u32 (ws s)).length) := Lib.hid (by rw [ints_length, ws_length, HSL.out]; kernel_rfl)
          have HLs : Hid ((ints .u32 (ws s)).length = (ints .u32 (ws (List.replicate 16 0#32))).length) := Lib.hid (by rw [ints_length, ws_length, HSL.out, ints_length, ws_length, List.length_replicate])
          clear HXA H1 H2 HKL HNL HA0 HC0 HCTR
          go_upto_region 16 with (first | (refine wpList_load_blk rfl _ _ rfl S rfl _ _ _ _ H4.out Try.underlying76 HIs.out ?_) | (refine wpList_store_blk rfl _ _ _ rfl wr.heap.size (ints .u32 (ws s)) rfl rfl _ _ HZ.out HLs.out HIs.out (ints_one _ _) ?_; intro w7 hb7 hg7))
          have H3 := Lib.hid (H3.out.grown hg7 (fun e => by have h := Option.some.inj e; have := HLR.out; omega))
          have H4 := Lib.hid (H4a.out.grown hg7 (fun e => by have h := Option.some.inj e; have := HLS.out; omega))
          have HE := Lib.hid (ext_grown HE.out hg7 HXS.out)
          have H5 := Lib.hid hb7
          obtain ⟨X, hX⟩ : ∃ X, X = wr.heap.size := ⟨_, rfl⟩
          have HXW : Hid (w.heap.size ≤ X ∧ S < X ∧ R < X) := Lib.hid (by have := HXS.out; have := HLS.out; have := HLR.out; omega)
          rw [← hX] at H5 ⊢
          clear hb7 hg7 HZ H4a HXS HLS HLR HIs HLs hX
          go_wp2_with fail
          go_loopw [11] (fun iv wr => ∃ (k : Nat), k ≤ 10 ∧ iv = .int .i64 (k : Int) ∧ Blk wr R (ints .u8 (List.replicate 64 0)) 68 ∧ Blk wr S (ints .u32 (ws s)) 76 ∧ Blk wr X (ints .u32 (ws (dRun s k))) 76 ∧ Ext w wr) (fun iv _ => 10 - (intOf iv).toNat)
          case atStart => exact ⟨0, by omega, rfl, H3.out, H4.out, H5.out, HE.out⟩
          case round =>
            clear H3 H4 H5 HE
            obtain ⟨k, hk, rfl, hb3, hb4, hb5, hbel⟩ := hrel
            have k0 : (0 : Int) ≤ (k : Int) := Int.natCast_nonneg _
            by_cases hlk : k < 10
            · have k1 : (k : Int) < 10 := by omega
              have HD : Hid (dround (dRun s k) = dRun s (k + 1)) := Lib.hid rfl
              have HL0 : Hid ((dRun s k).length = 16) := Lib.hid (by rw [dRun_length]; exact HSL.out)
              have H3 := Lib.hid hb3
              have H4 := Lib.hid hb4
              have H5 := Lib.hid hb5
              have HE := Lib.hid hbel
              clear hb3 hb4 hb5 hbel
              generalize dRun s k = q0 at *
              obtain ⟨q1, hq1⟩ : ∃ q, q = qrt q0 0 4 8 12 := ⟨_, rfl⟩
              have HQ0 := Lib.hid (quarter_at X q0 q1 0 4 8 12 0 4 8 12 _ H5.out HL0.out rfl rfl rfl rfl hq1.symm (by decide))
              have HL1 : Hid (q1.length = 16) := Lib.hid (by rw [hq1, qrt_length]; exact HL0.out)
              have Hq1 := Lib.hid hq1
              clear hq1
              go_wp2_with fail
              refine HQ0.out.mono ?_
              rintro e v1 ⟨rfl, hb, hg⟩
              have H3 := Lib.hid (H3.out.grown hg (fun e => by have h := Option.some.inj e; have := HXW.out; omega))
              have H4 := Lib.hid (H4.out.grown hg (fun e => by have h := Option.some.inj e; have := HXW.out; omega))
              have HE := Lib.hid (ext_grown HE.out hg HXW.out.1)
              have H5 := Lib.hid hb
              clear hb hg HQ0
              obtain ⟨q2, hq2⟩ : ∃ q, q = qrt q1 1 5 9 13 := ⟨_, rfl⟩
              have HQ1 := Lib.hid (quarter_at X q1 q2 1 5 9 13 1 5 9 13 _ H5.out HL1.out rfl rfl rfl rfl hq2.symm (by decide))
              have HL2 : Hid (q2.length = 16) := Lib.hid (by rw [hq2, qrt_length]; exact HL1.out)
              have Hq2 := Lib.hid hq2
              clear hq2
              go_wp2_with fail
              refine HQ1.out.mono ?_
              rintro e v2 ⟨rfl, hb, hg⟩
              have H3 := Lib.hid (H3.out.grown hg (fun e => by have h := Option.some.inj e; have := HXW.out; omega))
              have H4 := Lib.hid (H4.out.grown hg (fun e => by have h := Option.some.inj e; have := HXW.out; omega))
              have HE := Lib.hid (ext_grown HE.out hg HXW.out.1)
              have H5 := Lib.hid hb
              clear hb hg HQ1
              obtain ⟨q3, hq3⟩ : ∃ q, q = qrt q2 2 6 10 14 := ⟨_, rfl⟩
              have HQ2 := Lib.hid (quarter_at X q2 q3 2 6 10 14 2 6 10 14 _ H5.out HL2.out rfl rfl rfl rfl hq3.symm (by decide))
              have HL3 : Hid (q3.length = 16) := Lib.hid (by rw [hq3, qrt_length]; exact HL2.out)
              have Hq3 := Lib.hid hq3
              clear hq3
              go_wp2_with fail
              refine HQ2.out.mono ?_
              rintro e v3 ⟨rfl, hb, hg⟩
              have H3 := Lib.hid (H3.out.grown hg (fun e => by have h := Option.some.inj e; have := HXW.out; omega))
              have H4 := Lib.hid (H4.out.grown hg (fun e => by have h := Option.some.inj e; have := HXW.out; omega))
              have HE := Lib.hid (ext_grown HE.out hg HXW.out.1)
              have H5 := Lib.hid hb
              clear hb hg HQ2
              obtain ⟨q4, hq4⟩ : ∃ q, q = qrt q3 3 7 11 15 := ⟨_, rfl⟩
              have HQ3 := Lib.hid (quarter_at X q3 q4 3 7 11 15 3 7 11 15 _ H5.out HL3.out rfl rfl rfl rfl hq4.symm (by decide))
              have HL4 : Hid (q4.length = 16) := Lib.hid (by rw [hq4, qrt_length]; exact HL3.out)
              have Hq4 := Lib.hid hq4
              clear hq4
              go_wp2_with fail
              refine HQ3.out.mono ?_
              rintro e v4 ⟨rfl, hb, hg⟩
              have H3 := Lib.hid (H3.out.grown hg (fun e => by have h := Option.some.inj e; have := HXW.out; omega))
              have H4 := Lib.hid (H4.out.grown hg (fun e => by have h := Option.some.inj e; have := HXW.out; omega))
              have HE := Lib.hid (ext_grown HE.out hg HXW.out.1)
              have H5 := Lib.hid hb
              clear hb hg HQ3
              obtain ⟨q5, hq5⟩ : ∃ q, q = qrt q4 0 5 10 15 := ⟨_, rfl⟩
              have HQ4 := Lib.hid (quarter_at X q4 q5 0 5 10 15 0 5 10 15 _ H5.out HL4.out rfl rfl rfl rfl hq5.symm (by decide))
              have HL5 : Hid (q5.length = 16) := Lib.hid (by rw [hq5, qrt_length]; exact HL4.out)
              have Hq5 := Lib.hid hq5
              clear hq5
              go_wp2_with fail
              refine HQ4.out.mono ?_
              rintro e v5 ⟨rfl, hb, hg⟩
              have H3 := Lib.hid (H3.out.grown hg (fun e => by have h := Option.some.inj e; have := HXW.out; omega))
              have H4 := Lib.hid (H4.out.grown hg (fun e => by have h := Option.some.inj e; have := HXW.out; omega))
              have HE := Lib.hid (ext_grown HE.out hg HXW.out.1)
              have H5 := Lib.hid hb
              clear hb hg HQ4
              obtain ⟨q6, hq6⟩ : ∃ q, q = qrt q5 1 6 11 12 := ⟨_, rfl⟩
              have HQ5 := Lib.hid (quarter_at X q5 q6 1 6 11 12 1 6 11 12 _ H5.out HL5.out rfl rfl rfl rfl hq6.symm (by decide))
              have HL6 : Hid (q6.length = 16) := Lib.hid (by rw [hq6, qrt_length]; exact HL5.out)
              have Hq6 := Lib.hid hq6
              clear hq6
              go_wp2_with fail
              refine HQ5.out.mono ?_
              rintro e v6 ⟨rfl, hb, hg⟩
              have H3 := Lib.hid (H3.out.grown hg (fun e => by have h := Option.some.inj e; have := HXW.out; omega))
              have H4 := Lib.hid (H4.out.grown hg (fun e => by have h := Option.some.inj e; have := HXW.out; omega))
              have HE := Lib.hid (ext_grown HE.out hg HXW.out.1)
              have H5 := Lib.hid hb
              clear hb hg HQ5
              obtain ⟨q7, hq7⟩ : ∃ q, q = qrt q6 2 7 8 13 := ⟨_, rfl⟩
              have HQ6 := Lib.hid (quarter_at X q6 q7 2 7 8 13 2 7 8 13 _ H5.out HL6.out rfl rfl rfl rfl hq7.symm (by decide))
              have HL7 : Hid (q7.length = 16) := Lib.hid (by rw [hq7, qrt_length]; exact HL6.out)
              have Hq7 := Lib.hid hq7
              clear hq7
              go_wp2_with fail
              refine HQ6.out.mono ?_
              rintro e v7 ⟨rfl, hb, hg⟩
              have H3 := Lib.hid (H3.out.grown hg (fun e => by have h := Option.some.inj e; have := HXW.out; omega))
              have H4 := Lib.hid (H4.out.grown hg (fun e => by have h := Option.some.inj e; have := HXW.out; omega))
              have HE := Lib.hid (ext_grown HE.out hg HXW.out.1)
              have H5 := Lib.hid hb
              clear hb hg HQ6
              obtain ⟨q8, hq8⟩ : ∃ q, q = qrt q7 3 4 9 14 := ⟨_, rfl⟩
              have HQ7 := Lib.hid (quarter_at X q7 q8 3 4 9 14 3 4 9 14 _ H5.out HL7.out rfl rfl rfl rfl hq8.symm (by decide))
              have HL8 : Hid (q8.length = 16) := Lib.hid (by rw [hq8, qrt_length]; exact HL7.out)
              have Hq8 := Lib.hid hq8
              clear hq8
              go_wp2_with fail
              refine HQ7.out.mono ?_
              rintro e v8 ⟨rfl, hb, hg⟩
              have H3 := Lib.hid (H3.out.grown hg (fun e => by have h := Option.some.inj e; have := HXW.out; omega))
              have H4 := Lib.hid (H4.out.grown hg (fun e => by have h := Option.some.inj e; have := HXW.out; omega))
              have HE := Lib.hid (ext_grown HE.out hg HXW.out.1)
              have H5 := Lib.hid hb
              clear hb hg HQ7
              have HDD : Hid (q8 = dRun s (k + 1)) := Lib.hid (by rw [← HD.out, Hq8.out, Hq7.out, Hq6.out, Hq5.out, Hq4.out, Hq3.out, Hq2.out, Hq1.out]; rfl)
              clear Hq1 Hq2 Hq3 Hq4 Hq5 Hq6 Hq7 Hq8
              go_wp2_with fail
              go_roundw
              case rel => exact ⟨k + 1, by omega, by go_num, H3.out, H4.out, by rw [← HDD.out]; exact H5.out, HE.out⟩
              case measure => simp [intOf]; omega
            · have hk8 : k = 10 := by omega
              subst hk8
              rw [show ((10 : Nat) : Int) = 10 from rfl]
              have H3 := Lib.hid hb3
              have H4 := Lib.hid hb4
              have H5 := Lib.hid hb5
              have HE := Lib.hid hbel
              clear hb3 hb4 hb5 hbel k0 hk
              have HXL : Hid ((dRun s 10).length = 16) := Lib.hid (by rw [dRun_length]; exact HSL.out)
              generalize dRun s 10 = x at *
              have HWL : Hid ((leB (wAdd x s) 64).length = 64) := Lib.hid (leB_length _ _)
              have HOB : Hid (∀ j, j < 64 → (leB (wAdd x s) 64).getD j 0 = UInt8.ofNat ((x.getD (j / 4) 0#32 + s.getD (j / 4) 0#32).toNat / 2 ^ (8 * (j % 4)) % 256)) := Lib.hid (fun j hj => by
                rw [← wAdd_getD x s (by omega : j / 4 < 16)]
                exact leB_getD _ hj)
              generalize leB (wAdd x s) 64 = o at *
              obtain ⟨Y, hY⟩ : ∃ Y, Y = wr.heap.size := ⟨_, rfl⟩
              have HYW : Hid (w.heap.size ≤ Y ∧ S < Y ∧ R < Y ∧ X < Y) := Lib.hid (by have := HE.out.size; have := H4.out.lt; have := H3.out.lt; have := H5.out.lt; omega)
              have HXA := Ext.alloc wr (.cells (ints .u8 (List.replicate 64 0)).toArray 68)
              have H6 : Hid (Blk (wr.alloc (.cells (ints .u8 (List.replicate 64 0)).toArray 68)) Y ((fill 64 o 0).map bval) 68) := Lib.hid (by rw [fill_start, hY]; exact Blk.made wr (ints .u8 (List.replicate 64 0)) 68)
              have H3n := Lib.hid (ext_blk H3.out HXA)
              have H4n := Lib.hid (ext_blk H4.out HXA)
              have H5n := Lib.hid (ext_blk H5.out HXA)
              have HEn := Lib.hid (HE.out.trans HXA)
              clear HXA
              go_upto_region 28 with (fail)
              change Code.wp _ _ _ _ (wr.alloc (.cells (ints .u8 (List.replicate 64 0)).toArray 68))
              rw [← hY]
              clear H3 H4 H5 HE hY
              generalize wr.alloc (.cells (ints .u8 (List.replicate 64 0)).toArray 68) = w8 at *
              go_wp2_with fail
              go_loopw [13] (fun iv wr => ∃ (k : Nat), k ≤ 64 ∧ iv = .int .i64 (k : Int) ∧ Blk wr R (ints .u8 (List.replicate 64 0)) 68 ∧ Blk wr S (ints .u32 (ws s)) 76 ∧ Blk wr X (ints .u32 (ws x)) 76 ∧ Blk wr Y ((fill 64 o k).map bval) 68 ∧ Ext w wr) (fun iv _ => 64 - (intOf iv).toNat)
              case atStart => exact ⟨0, by omega, rfl, H3n.out, H4n.out, H5n.out, H6.out, HEn.out⟩
              case round =>
                clear H3n H4n H5n H6 HEn
                obtain ⟨k, hk, rfl, hb3, hb4, hb5, hb6, hbel⟩ := hrel
                have k0 : (0 : Int) ≤ (k : Int) := Int.natCast_nonneg _
                by_cases hlk : k < 64
                · have k1 : (k : Int) < 64 := by omega
                  have c1 := word_cell hb5 (i := k / 4) (by rw [HXL.out]; omega)
                  have c2 := word_cell hb4 (i := k / 4) (by rw [HSL.out]; omega)
                  have f3 := hb6.free k
                  have hob := HOB.out k hlk
                  have s1 := wi_add (x.getD (k / 4) 0#32) (s.getD (k / 4) 0#32)
                  generalize x.getD (k / 4) 0#32 = xa at *
                  generalize s.getD (k / 4) 0#32 = sa at *
                  generalize hva : xa + sa = va at *
                  obtain ⟨d, hd⟩ : ∃ d, d = k / 4 := ⟨_, rfl⟩
                  obtain ⟨r, hr⟩ : ∃ r, r = k % 4 := ⟨_, rfl⟩
                  have q1 : (k : Int) / 4 = (d : Int) := by omega
                  have q2 : (k : Int) % 4 = (r : Int) := by omega
                  have q3 : (d : Int) < 16 := by omega
                  have q4 : (0 : Int) ≤ (d : Int) := by omega
                  have q5 : (r : Int) < 4 := by omega
                  have q6 : (0 : Int) ≤ (r : Int) := by omega
                  rw [← hd] at c1 c2
                  rw [← hr] at hob
                  clear hd hr
                  obtain ⟨u6, c6⟩ : ∃ u, wr.cell? ⟨Y, k, none⟩ = some u := ⟨_, by rw [hb6.cell, bval_get (by rw [fill_length HWL.out (by omega)]; exact hlk)]⟩
                  have H3 := Lib.hid hb3
                  have H4 := Lib.hid hb4
                  have H5 := Lib.hid hb5
                  have H6 := Lib.hid hb6
                  have HE := Lib.hid hbel
                  clear hb3 hb4 hb5 hb6 hbel hva
                  go_wp2_with fail
                  go_region
                  go_wp2_with fail
                  go_roundw
                  case rel =>
                    have hz := word_byte va r _ hob
                    refine ⟨k + 1, by omega, by go_num, H3.out.far (by have := HYW.out; simp; omega) _, H4.out.far (by have := HYW.out; simp; omega) _, H5.out.far (by have := HYW.out; simp; omega) _, ?_, (far_ext HE.out HYW.out.1).trans (Ext.drew _)⟩
                    rw [← fill_set_val HWL.out hlk hz]
                    exact H6.out.set k _
                  case measure => simp [intOf]; omega
                · have hk8 : k = 64 := by omega
                  subst hk8
                  rw [fill_full HWL.out] at hb6
                  have H3 := Lib.hid hb3
                  have H6 := Lib.hid hb6
                  have HE := Lib.hid hbel
                  clear hb3 hb4 hb5 hb6 hbel
                  have HIo : Hid ((Try.prog.info? 68).map (·.size) = some (o.map bval).length) := Lib.hid (sig_size HWL.out)
                  have HLo : Hid ((o.map bval).length = (ints .u8 (List.replicate 64 0)).length) := Lib.hid (by rw [List.length_map, HWL.out, ints_length, List.length_replicate])
                  go_wp2_with (first | (refine wpList_load_blk rfl _ _ rfl Y rfl _ _ _ _ H6.out Try.underlying68 HIo.out ?_) | (refine wpList_store_blk rfl _ _ _ rfl R (o.map bval) rfl rfl _ _ H3.out HLo.out HIo.out (bval_one _) ?_; intro w9 hb9 hg9))
                  refine bodyPost_ret (result_blk rfl _ R _ _ _ _ rfl hb9 Try.underlying68 HIo.out) rfl ?_
                  exact ⟨by rw [HFIN.out], ext_grown HE.out hg9 (by have := HBW.out; have := HRB.out; omega)⟩
end Go.Proofs.Ytjnnhkodkbhbbaa

/- The walk of the document's own Turn. Each theorem names its own conditions. -/
namespace Go.Proofs.Ytjnnhkodkbhbbaa
open Go.RowKit
set_option linter.unusedVariables false
set_option linter.unusedSimpArgs false

set_option maxRecDepth 100000 in
set_option maxHeartbeats 16000000 in
theorem rTurn_any (kb nb b : List UInt8) (bv : Value) (c : Int) (w : World) (hk : kb.length = 32) (hn : nb.length = 12) (hb : Row1 w bv (b.map bval)) (hbl : b.length ≤ 1099511627776) (hc1 : -9223372036854775808 ≤ c) (hc2 : c ≤ 9223372036854775807) :
    Calls Try.prog 35 #[.agg (kb.map bval).toArray, .int .i64 c, .agg (nb.map bval).toArray, bv] w fun e w' => ∃ x, e = .returned x ∧ w'.ownsRow w.heap.size 5 1 x b.length ((chaTurn kb c nb b).map bval) ∧ Below w.heap.size w w' := by
  obtain ⟨i0, hi0, hz0, hz1, hz2⟩ := info_parts Try.info5
  have HI0 := Lib.hid hi0
  have HZ0 := Lib.hid hz0
  have HZ1 := Lib.hid hz1
  have HZ2 := Lib.hid hz2
  have HKL := Lib.hid hk
  have HNL := Lib.hid hn
  have HBL := Lib.hid hbl
  have HR := Lib.hid hb
  have HB := Lib.hid (boxes2 w (kb.map bval) (nb.map bval) 34 44)
  have HA0 := Lib.hid (and_mask32 c hc1 hc2)
  have HIK : Hid ((Try.prog.info? 34).map (·.size) = some (kb.map bval).length) := Lib.hid (num_size hk)
  have HIN : Hid ((Try.prog.info? 44).map (·.size) = some (nb.map bval).length) := Lib.hid (nonce_size hn)
  have HMOD := Lib.hid (fun z => ofInt32_mod c z)
  obtain ⟨cm, hcm⟩ : ∃ cm, cm = c % 4294967296 := ⟨_, rfl⟩
  have HCM : Hid (0 ≤ cm ∧ cm < 4294967296) := Lib.hid (by omega)
  rw [← hcm] at HA0 HMOD
  clear hk hn hbl hb hi0 hz0 hz1 hz2 hc1 hc2 hcm
  go_enter Try.func35, Try.ntmps35
  go_upto_region 1 with (fail)
  obtain ⟨H1, H2, HE⟩ := HB.out
  change Code.wp _ _ _ _ ((w.alloc (.cells (kb.map bval).toArray 34)).alloc (.cells (nb.map bval).toArray 44))
  generalize (w.alloc (.cells (kb.map bval).toArray 34)).alloc (.cells (nb.map bval).toArray 44) = wa at *
  obtain ⟨K, hK⟩ : ∃ K, K = w.heap.size := ⟨_, rfl⟩
  have HKW : Hid (w.heap.size ≤ K ∧ K ≤ w.heap.size) := Lib.hid (by omega)
  rw [← hK] at H1 H2 ⊢
  have H1 := Lib.hid H1
  have H2 := Lib.hid H2
  have HE : Hid (Ext w wa) := Lib.hid HE
  have HR1 := Lib.hid (HR.out.below HE.out)
  have HNIL : Hid (wa.ownsRow wa.heap.size 5 1 (.slice none 0 0) 0 []) := Lib.hid (World.ownsRow_nil _ _ _ _)
  have HMM : Hid ((b.map bval).length = b.length) := Lib.hid (List.length_map _)
  clear hK HB HR
  go_upto_region 2 with (at_builtin; refine wpList_append_row rfl _ _ 22 rfl wa.heap.size 5 i0 (.int .u8 0) 1 Try.underlying22 HI0.out HZ0.out HZ1.out HZ2.out rfl _ 0 _ rfl HNIL.out rfl HR1.out (bval_one _) (by have := HBL.out; rw [HMM.out]; unfold maxLen; omega) (by have := HBL.out; rw [HMM.out]; omega) (Nat.le_refl _) ?_; intro x1 w1 hown hgrow)
  have HO : Hid (w1.ownsRow (K + 2) 5 1 x1 b.length (b.map bval)) := Lib.hid (by have h := hown; rw [HMM.out, Nat.zero_add, List.nil_append] at h; exact h.mono (by have := H2.out.lt; omega))
  have HE1 : Hid (Ext wa w1) := Lib.hid (ext_own (Ext.refl wa) HNIL.out (Nat.le_refl _) hgrow)
  have H1 := Lib.hid (ext_blk H1.out HE1.out)
  have H2 := Lib.hid (ext_blk H2.out HE1.out)
  have HE := Lib.hid (HE.out.trans HE1.out)
  obtain ⟨ax, cx, hxv, _⟩ := id (Row1.of_own HO.out)
  rw [HMM.out] at hxv
  subst hxv
  clear hown hgrow HE1 HNIL HR1 HMM
  have ha0 := HA0.out
  go_upto_region 3 with (fail)
  clear ha0 HA0
  obtain ⟨M, hM⟩ : ∃ M, M = w1.heap.size := ⟨_, rfl⟩
  have HMW : Hid (K + 1 < M) := Lib.hid (by have := H2.out.lt; omega)
  have HXA := Ext.alloc w1 (.cells (ints .u8 (List.replicate 64 0)).toArray 68)
  have HXM : Hid (∀ g, ax = some ⟨g, 0, none⟩ → g < M) := Lib.hid (fun g hg => by subst hg; rw [hM]; exact (HO.out.lt g rfl).2)
  have H3 : Hid (Blk (w1.alloc (.cells (ints .u8 (List.replicate 64 0)).toArray 68)) M ((List.replicate 64 (0 : UInt8)).map bval) 68) := Lib.hid (by
    have e : (List.replicate 64 (0 : UInt8)).map bval = ints .u8 (List.replicate 64 0) := by rw [List.map_replicate]; unfold ints; rw [List.map_replicate]; rfl
    rw [e, hM]
    exact Blk.made w1 (ints .u8 (List.replicate 64 0)) 68)
  have H1 := Lib.hid (ext_blk H1.out HXA)
  have H2 := Lib.hid (ext_blk H2.out HXA)
  have HO := Lib.hid (HO.out.alloc (.cells (ints .u8 (List.replicate 64 0)).toArray 68))
  have HE := Lib.hid (HE.out.trans HXA)
  clear HXA
  go_upto_region 4 with (fail)
  change Code.wp _ _ _ _ (w1.alloc (.cells (ints .u8 (List.replicate 64 0)).toArray 68))
  rw [← hM]
  clear hM
  generalize w1.alloc (.cells (ints .u8 (List.replicate 64 0)).toArray 68) = w2 at *
  go_wp2_with fail
  go_loopw [12] (fun iv wr => ∃ (k : Nat) (kk : List UInt8), k ≤ b.length ∧ iv = .int .i64 (k : Int) ∧ kk.length = 64 ∧ (k % 64 ≠ 0 → kk = chaBlock kb (BitVec.ofInt 32 (c + ((k / 64 : Nat) : Int))) nb) ∧ wr.ownsRow (K + 2) 5 1 (.slice ax b.length cx) b.length ((chaTo kb c nb b k).map bval) ∧ Blk wr K (kb.map bval) 34 ∧ Blk wr (K + 1) (nb.map bval) 44 ∧ Blk wr M (kk.map bval) 68 ∧ Ext w wr) (fun iv _ => b.length - (intOf iv).toNat)
  case atStart => exact ⟨0, _, by omega, rfl, by simp, fun h => absurd rfl h, HO.out, H1.out, H2.out, H3.out, HE.out⟩
  case round =>
    clear HO H1 H2 H3 HE
    obtain ⟨k, kk, hk, rfl, hkl, hkk, ho, hb1, hb2, hb3, hbel⟩ := hrel
    have k0 : (0 : Int) ≤ (k : Int) := Int.natCast_nonneg _
    have HKK := Lib.hid hkk
    have HLK := Lib.hid hkl
    have HO := Lib.hid ho
    have H1 := Lib.hid hb1
    have H2 := Lib.hid hb2
    have H3 := Lib.hid hb3
    have HE := Lib.hid hbel
    clear hkk hkl ho hb1 hb2 hb3 hbel
    by_cases hlk : k < b.length
    · have k1 : (k : Int) < (b.length : Int) := by omega
      go_upto_if 25 with (fail)
      go_cut [12] from 23 to 32 (fun iv wc => ∃ (k2 : List UInt8), iv = .int .i64 (k : Int) ∧ k2.length = 64 ∧ k2 = chaBlock kb (BitVec.ofInt 32 (c + ((k / 64 : Nat) : Int))) nb ∧ wc.ownsRow (K + 2) 5 1 (.slice ax b.length cx) b.length ((chaTo kb c nb b k).map bval) ∧ Blk wc K (kb.map bval) 34 ∧ Blk wc (K + 1) (nb.map bval) 44 ∧ Blk wc M (k2.map bval) 68 ∧ Ext w wc)
      case first =>
        by_cases hm : k % 64 = 0
        · have q0 : (k : Int) % 64 = 0 := by omega
          obtain ⟨d, hd⟩ : ∃ d, d = k / 64 := ⟨_, rfl⟩
          have q1 : (k : Int) / 64 = (d : Int) := by omega
          have q2 : (0 : Int) ≤ (d : Int) := by omega
          have q3 : cm + (d : Int) ≤ 9223372036854775807 := by have := HCM.out; have := HBL.out; omega
          have q4 : -9223372036854775808 ≤ cm + (d : Int) := by have := HCM.out; omega
          have q5 : (d : Int) ≤ 9223372036854775807 := by have := HBL.out; omega
          have q6 : -9223372036854775808 ≤ (d : Int) := by omega
          obtain ⟨o, ho⟩ : ∃ o, o = chaBlock kb (BitVec.ofInt 32 (c + ((k / 64 : Nat) : Int))) nb := ⟨_, rfl⟩
          have hblk : chaBlock kb (BitVec.ofInt 32 (cm + (d : Int))) nb = o := by rw [ho, hd, HMOD.out]
          have hbk := rBlock_any kb nb (cm + (d : Int)) wr HKL.out HNL.out q4 q3
          rw [hblk] at hbk
          have HBK := Lib.hid hbk
          have HDO := Lib.hid ho
          have HLO : Hid (o.length = 64) := Lib.hid (by rw [ho]; exact chaBlock_length _ _ _)
          clear ho hblk hbk
          clear hd hm
          go_wp2_with (first | (refine wpList_load_blk rfl _ _ rfl K rfl _ _ _ _ H1.out Try.underlying34 HIK.out ?_) | (refine wpList_load_blk rfl _ _ rfl (K + 1) rfl _ _ _ _ H2.out Try.underlying44 HIN.out ?_))
          refine HBK.out.mono ?_
          rintro e w5 ⟨rfl, hb⟩
          have HO := Lib.hid (own_below HO.out hb)
          have H1 := Lib.hid (ext_blk H1.out hb)
          have H2 := Lib.hid (ext_blk H2.out hb)
          have H3 := Lib.hid (ext_blk H3.out hb)
          have HE := Lib.hid (HE.out.trans hb)
          have HIo : Hid ((Try.prog.info? 68).map (·.size) = some (o.map bval).length) := Lib.hid (sig_size HLO.out)
          have HLo : Hid ((o.map bval).length = (kk.map bval).length) := Lib.hid (by rw [List.length_map, List.length_map, HLO.out, HLK.out])
          clear hb HBK
          go_wp2_with (refine wpList_store_blk rfl _ _ _ rfl M (o.map bval) rfl rfl _ _ H3.out HLo.out HIo.out (bval_one _) ?_; intro w6 hb6 hg6)
          go_meet
          refine ⟨o, rfl, HLO.out, HDO.out, HO.out.kept hg6 (Or.inr (fun e => ?_)), H1.out.grown hg6 (fun e => by have h := Option.some.inj e; have := HMW.out; omega), H2.out.grown hg6 (fun e => by have h := Option.some.inj e; have := HMW.out; omega), hb6, ext_grown HE.out hg6 (by have := HMW.out; have := HKW.out; omega)⟩
          cases ax with
          | none => cases e
          | some a =>
            have e2 : a.block = M := Option.some.inj e
            obtain ⟨g, cap, hv, _⟩ := HO.out.form (by omega)
            have hg : a = ⟨g, 0, none⟩ := by
              simp only [Value.slice.injEq, Option.some.injEq] at hv
              exact hv.1
            subst hg
            have := HXM.out g rfl
            have e3 : g = M := e2
            omega
        · have q0 : ((k : Int) % 64 == 0) = false := by simp; omega
          go_wp2_with fail
          go_meet
          exact ⟨kk, rfl, HLK.out, HKK.out hm, HO.out, H1.out, H2.out, H3.out, HE.out⟩
      case rest =>
        obtain ⟨k2, rfl, hl2, hk2, ho, hb1, hb2, hb3, hbel⟩ := hcut
        clear HO H1 H2 H3 HE HKK HLK
        obtain ⟨g, cap, hv, hgK, hgl⟩ := ho.form (by omega)
        have hg2 : ax = some ⟨g, 0, none⟩ := by
          simp only [Value.slice.injEq] at hv
          exact hv.1
        subst hg2
        have HGM := Lib.hid (HXM.out g rfl)
        have c1 := ho.cellAt k (by omega)
        have f1 := ho.frozenAt k
        have hx : (chaTo kb c nb b k).getD k 0 = b.getD k 0 := by rw [chaTo_getD _ _ _ _ k hk, if_neg (by omega)]
        rw [bval_get (by rw [chaTo_length]; exact hlk), hx] at c1
        have c2 := hb3.cell (k % 64)
        rw [bval_get (by rw [hl2]; omega)] at c2
        have hby := chaByte_at kb c nb k2 k hk2
        have x1 := xor_u8 (b.getD k 0) (k2.getD (k % 64) 0)
        have HS := Lib.hid (show ((chaTo kb c nb b k).map bval).set k (bval (b.getD k 0 ^^^ k2.getD (k % 64) 0)) = (chaTo kb c nb b (k + 1)).map bval from by rw [← List.map_set, hby]; rfl)
        have HST := Lib.hid (ho.stored k (bval (b.getD k 0 ^^^ k2.getD (k % 64) 0)))
        have HK2 := Lib.hid hk2
        have HL2 := Lib.hid hl2
        have H1 := Lib.hid hb1
        have H2 := Lib.hid hb2
        have H3 := Lib.hid hb3
        have HE := Lib.hid hbel
        generalize hz : b.getD k 0 ^^^ k2.getD (k % 64) 0 = z at *
        generalize b.getD k 0 = y1 at *
        generalize k2.getD (k % 64) 0 = y2 at *
        obtain ⟨r, hr⟩ : ∃ r, r = k % 64 := ⟨_, rfl⟩
        have q1 : (k : Int) % 64 = (r : Int) := by omega
        have q2 : (0 : Int) ≤ (r : Int) := by omega
        have q3 : (r : Int) < 64 := by omega
        rw [← hr] at c2
        clear hk2 hl2 hb1 hb2 hb3 hbel hby hx hz hr ho hv hgl
        go_wp2_with fail
        go_region
        have k63 : (k : Int) + 1 ≤ 9223372036854775807 := by have := HBL.out; omega
        go_wp2_with fail
        go_roundw
        case rel =>
          refine ⟨k + 1, k2, by omega, by go_num, HL2.out, fun hm => ?_, ?_, H1.out.far (by simp; omega) _, H2.out.far (by simp; omega) _, H3.out.far (by have := HGM.out; simp; omega) _, Ext.trans (b := wc.setCell ⟨g, k, none⟩ (bval z)) (Below.setCell HE.out (by have := HKW.out; simp; omega) _) (Ext.drew _)⟩
          · rw [HK2.out]
            congr 2
            omega
          · rw [← HS.out]
            exact HST.out.1
        case measure =>
          simp [intOf]; omega
    · have hkb : k = b.length := by omega
      subst hkb
      rw [chaTo_full] at HO
      have hlk2 : ¬ (b.length : Int) < (b.length : Int) := by omega
      go_wp2_with fail
      go_ret
      exact ⟨_, rfl, HO.out.mono (by have := HKW.out; omega), HE.out⟩
end Go.Proofs.Ytjnnhkodkbhbbaa

/- What the walks of RefCar17 need and no function of the document. Each theorem names its own conditions. -/
namespace Go.Proofs.Ytjnnhkodkbhbbaa
open Go.RowKit
set_option linter.unusedVariables false
set_option linter.unusedSimpArgs false

theorem and_i64_3 (a : Int) (h1 : -9223372036854775808 ≤ a) (h2 : a ≤ 9223372036854775807) : bits .and .i64 a 3 = a % 4 := by
  have h : (BitVec.ofInt 64 3).toNat = 2 ^ 2 - 1 := by decide
  have key : (BitVec.ofInt 64 a &&& BitVec.ofInt 64 3).toNat = (a % ((2 ^ 64 : Nat) : Int)).toNat % 2 ^ 2 := by
    rw [BitVec.toNat_and, BitVec.toNat_ofInt, h, Nat.and_two_pow_sub_one_eq_mod]
  show IntKind.i64.wrap ((BitVec.ofInt 64 a &&& BitVec.ofInt 64 3).toNat : Nat) = _
  rw [key, IntKind.wrap_i64]
  omega
def qN (h : List Int) : Nat → List Int
  | 0 => h
  | k + 1 => qPass (qN h k)
theorem qN_length (h : List Int) : ∀ k, (qN h k).length = h.length
  | 0 => rfl
  | k + 1 => by rw [qN, qPass_length, qN_length h k]
theorem qN_three (h : List Int) : qN h 3 = qThree h := rfl
theorem qPass_le (h : List Int) (hl : h.length = 17) {M : Int} (hM : 255 ≤ M) (hn : ∀ i, 0 ≤ h.getD i 0 ∧ h.getD i 0 ≤ M) : ∀ i, 0 ≤ (qPass h).getD i 0 ∧ (qPass h).getD i 0 ≤ 4 * M := by
  intro i
  refine ⟨qPass_nonneg h hl (fun i => (hn i).1) i, ?_⟩
  have hlen : (ply_qRun h 16).1.length = 17 := by rw [ply_qRun_length, hl]
  have hs := qRun_small h hl 16 (Nat.le_refl _)
  have hu := qRun_top h hn 16
  have hu0 := qRun_nonneg h (fun i => (hn i).1) 16
  have h16 := hn 16
  unfold qPass
  by_cases e : i = 0
  · subst e
    rw [getD_set_same (by simp [hlen])]
    have := hs 0 (by omega)
    omega
  · rw [getD_set_far (by omega)]
    by_cases e2 : i = 16
    · subst e2
      rw [getD_set_same (by omega)]
      omega
    · rw [getD_set_far (by omega)]
      rcases Nat.lt_or_ge i 16 with h | h
      · have := (hs i h).2
        omega
      · rw [getD_out (by omega)]
        omega
theorem qN_le (h : List Int) (hl : h.length = 17) (hn : ∀ i, 0 ≤ h.getD i 0 ∧ h.getD i 0 ≤ 1099511627776) (k : Nat) (hk : k ≤ 3) : ∀ i, 0 ≤ (qN h k).getD i 0 ∧ (qN h k).getD i 0 ≤ 70368744177664 := by
  have l1 : (qN h 1).length = 17 := by rw [qN_length, hl]
  have l2 : (qN h 2).length = 17 := by rw [qN_length, hl]
  have b1 := qPass_le h hl (by omega) hn
  have b2 := qPass_le (qN h 1) l1 (by omega) b1
  have b3 := qPass_le (qN h 2) l2 (by omega) b2
  intro i
  rcases (by omega : k = 0 ∨ k = 1 ∨ k = 2 ∨ k = 3) with rfl | rfl | rfl | rfl
  · have := hn i
    exact ⟨this.1, Int.le_trans this.2 (by decide)⟩
  · exact ⟨(b1 i).1, Int.le_trans (b1 i).2 (by decide)⟩
  · exact ⟨(b2 i).1, Int.le_trans (b2 i).2 (by decide)⟩
  · exact ⟨(b3 i).1, Int.le_trans (b3 i).2 (by decide)⟩
theorem digit_cell {w : World} {S i : Nat} {l : List Int} {t : TypeId} (h : Blk w S (ints .i64 l) t) (hi : i < l.length) : w.cell? ⟨S, i, none⟩ = some (.int .i64 (l.getD i 0)) := by
  rw [h.cell, ints_get hi]

end Go.Proofs.Ytjnnhkodkbhbbaa

/- The walk of the document's own carry of seventeen digits. Each theorem names its own conditions. -/
namespace Go.Proofs.Ytjnnhkodkbhbbaa
open Go.RowKit
set_option linter.unusedVariables false
set_option linter.unusedSimpArgs false

theorem Try.arr98 : (Try.prog.info? 98).map (·.size) = some 17 := by kernel_rfl
theorem d17_size {l : List Int} (h : l.length = 17) : (Try.prog.info? 98).map (·.size) = some (ints .i64 l).length := by rw [ints_length, h]; exact Try.arr98
set_option maxRecDepth 100000 in
set_option maxHeartbeats 16000000 in
theorem carried17_any (H : List Int) (w : World) (hl : H.length = 17) (hb : ∀ i, 0 ≤ H.getD i 0 ∧ H.getD i 0 ≤ 1099511627776) :
    Calls Try.prog 72 #[.agg (ints .i64 H).toArray] w fun e w' => e = .returned (.agg (ints .i64 (qThree H)).toArray) ∧ Below w.heap.size w w' := by
  have HL := Lib.hid hl
  have HBD := Lib.hid (qN_le H hl hb)
  have HB := Lib.hid (boxes2 w (ints .i64 H) (ints .i64 (List.replicate 17 0)) 98 98)
  clear hl hb
  go_enter Try.func72, Try.ntmps72
  go_upto_region 1 with (fail)
  obtain ⟨H1, H2, HE⟩ := HB.out
  change Code.wp _ _ _ _ ((w.alloc (.cells (ints .i64 H).toArray 98)).alloc (.cells (ints .i64 (List.replicate 17 0)).toArray 98))
  generalize (w.alloc (.cells (ints .i64 H).toArray 98)).alloc (.cells (ints .i64 (List.replicate 17 0)).toArray 98) = wa at *
  obtain ⟨A, hA⟩ : ∃ A, A = w.heap.size := ⟨_, rfl⟩
  have HAW : Hid (w.heap.size ≤ A) := Lib.hid (by omega)
  rw [← hA] at H1 H2 ⊢
  have H1 := Lib.hid H1
  have H2 := Lib.hid H2
  have HE : Hid (Ext w wa) := Lib.hid HE
  clear hA HB
  go_wp2_with fail
  go_loopw [3] (fun kv wr => ∃ (k : Nat), k ≤ 3 ∧ kv = .int .i64 (k : Int) ∧ Blk wr A (ints .i64 (qN H k)) 98 ∧ Blk wr (A + 1) (ints .i64 (List.replicate 17 0)) 98 ∧ Ext w wr) (fun kv _ => 3 - (intOf kv).toNat)
  case atStart => exact ⟨0, by omega, rfl, H1.out, H2.out, HE.out⟩
  case round =>
    clear H1 H2 HE
    obtain ⟨k, hk, rfl, hb1, hb2, hbel⟩ := hrel
    have k0 : (0 : Int) ≤ (k : Int) := Int.natCast_nonneg _
    by_cases hlk : k < 3
    · have k1 : (k : Int) < 3 := by omega
      have HQ : Hid (qN H (k + 1) = qPass (qN H k)) := Lib.hid rfl
      have HBh := Lib.hid (HBD.out k (by omega))
      have HLh : Hid ((qN H k).length = 17) := Lib.hid (by rw [qN_length]; exact HL.out)
      have H1 := Lib.hid hb1
      have H2 := Lib.hid hb2
      have HE := Lib.hid hbel
      clear hb1 hb2 hbel
      generalize qN H k = h at *
      go_wp2_with fail
      go_loopw [4, 5] (fun uv iv wr => ∃ (i : Nat), i ≤ 16 ∧ uv = .int .i64 (ply_qRun h i).2 ∧ iv = .int .i64 (i : Int) ∧ Blk wr A (ints .i64 (ply_qRun h i).1) 98 ∧ Blk wr (A + 1) (ints .i64 (List.replicate 17 0)) 98 ∧ Ext w wr) (fun _ iv _ => 16 - (intOf iv).toNat)
      case atStart => exact ⟨0, by omega, rfl, rfl, H1.out, H2.out, HE.out⟩
      case round =>
        clear H1 H2 HE
        obtain ⟨i, hi, rfl, rfl, hb1, hb2, hbel⟩ := hrel
        have i0 : (0 : Int) ≤ (i : Int) := Int.natCast_nonneg _
        have hu0 := qRun_nonneg h (fun i => (HBh.out i).1) i
        have hu1 := qRun_top h HBh.out i
        have hrl : (ply_qRun h i).1.length = 17 := by rw [ply_qRun_length]; exact HLh.out
        have H1 := Lib.hid hb1
        have H2 := Lib.hid hb2
        have HE := Lib.hid hbel
        by_cases hli : i < 16
        · have i1 : (i : Int) < 17 := by omega
          have i2 : (i : Int) < 16 := by omega
          have c1 := digit_cell hb1 (i := i) (by rw [hrl]; omega)
          have f1 := hb1.free i
          have hz := HBh.out i
          have hfar := qRun_far h i i (Nat.le_refl _)
          have HS1 : Hid ((ply_qRun h (i + 1)).1 = (ply_qRun h i).1.set i (((ply_qRun h i).2 + (ply_qRun h i).1.getD i 0) % 256)) := Lib.hid rfl
          have HS2 : Hid ((ply_qRun h (i + 1)).2 = ((ply_qRun h i).2 + (ply_qRun h i).1.getD i 0) / 256) := Lib.hid rfl
          rw [← hfar] at hz
          clear hb1 hb2 hbel hfar
          generalize (ply_qRun h i).1.getD i 0 = z at *
          generalize (ply_qRun h i).2 = u at *
          obtain ⟨z0, z1⟩ := hz
          have a1 := and_i64_255 (u + z) (by omega) (by omega)
          go_wp2_with fail
          go_roundw
          case rel =>
            refine ⟨i + 1, by omega, by rw [HS2.out], by go_num, ?_, H2.out.far (by simp) _, Below.setCell HE.out (by have := HAW.out; simp; omega) _⟩
            rw [HS1.out]
            exact H1.out.seti i _
          case measure => simp [intOf]; omega
        · have hi16 : i = 16 := by omega
          subst hi16
          rw [show ((16 : Nat) : Int) = 16 from rfl]
          have HP : Hid (qPass h = ((ply_qRun h 16).1.set 16 (((ply_qRun h 16).2 + h.getD 16 0) % 4)).set 0 ((ply_qRun h 16).1.getD 0 0 + 5 * (((ply_qRun h 16).2 + h.getD 16 0) / 4))) := Lib.hid rfl
          have c1 := digit_cell hb1 (i := 16) (by rw [hrl]; omega)
          have f1 := hb1.free 16
          have hz := HBh.out 16
          have hfar := qRun_far h 16 16 (Nat.le_refl _)
          rw [hfar] at c1
          have hsm := qRun_small h HLh.out 16 (Nat.le_refl _) 0 (by omega)
          clear hb1 hb2 hbel hfar
          generalize hqr : (ply_qRun h 16).1 = rr at *
          generalize (ply_qRun h 16).2 = u at *
          generalize h.getD 16 0 = z at *
          obtain ⟨z0, z1⟩ := hz
          have a1 := and_i64_3 (u + z) (by omega) (by omega)
          have H1n : Hid (Blk (wr.setCell ⟨A, 16, none⟩ (.int .i64 ((u + z) % 4))) A (ints .i64 (rr.set 16 ((u + z) % 4))) 98) := Lib.hid (H1.out.seti 16 _)
          have H2n := Lib.hid (H2.out.far (a := ⟨A, 16, none⟩) (by simp) (.int .i64 ((u + z) % 4)))
          have HEn : Hid (Ext w (wr.setCell ⟨A, 16, none⟩ (.int .i64 ((u + z) % 4)))) := Lib.hid (Below.setCell HE.out (by have := HAW.out; simp; omega) _)
          go_upto_region 13 with (fail)
          clear H1 H2 HE c1 f1 a1
          generalize wr.setCell ⟨A, 16, none⟩ (.int .i64 ((u + z) % 4)) = w5 at *
          have c1 := digit_cell H1n.out (i := 0) (by rw [List.length_set, hrl]; omega)
          rw [getD_set_far (by omega)] at c1
          have f1 := H1n.out.free 0
          have H1m := Lib.hid (H1n.out.seti 0 (rr.getD 0 0 + 5 * ((u + z) / 4)))
          rw [← HP.out] at H1m
          generalize rr.getD 0 0 = y at *
          obtain ⟨y0, y1⟩ := hsm
          go_wp2_with fail
          go_roundw
          case rel => exact ⟨k + 1, by omega, by go_num, by rw [HQ.out]; exact H1m.out, H2n.out.far (by simp) _, Below.setCell HEn.out (by have := HAW.out; simp; omega) _⟩
          case measure => simp [intOf]; omega
    · have hk3 : k = 3 := by omega
      subst hk3
      rw [qN_three] at hb1
      have hlen : (qThree H).length = 17 := by rw [← qN_three, qN_length]; exact HL.out
      obtain ⟨o, ho⟩ : ∃ o, o = qThree H := ⟨_, rfl⟩
      rw [← ho] at hb1 hlen
      have HO := Lib.hid ho
      have H1 := Lib.hid hb1
      have H2 := Lib.hid hb2
      have HE := Lib.hid hbel
      have HIo := Lib.hid (d17_size hlen)
      have HLo : Hid ((ints .i64 o).length = (ints .i64 (List.replicate 17 0)).length) := Lib.hid (by rw [ints_length, hlen, ints_length, List.length_replicate])
      clear hb1 hb2 hbel ho hlen
      go_wp2_with (first | (refine wpList_load_blk rfl _ _ rfl A rfl _ _ _ _ H1.out Try.underlying98 HIo.out ?_) | (refine wpList_store_blk rfl _ _ _ rfl (A + 1) (ints .i64 o) rfl rfl _ _ H2.out HLo.out HIo.out (ints_one _ _) ?_; intro w9 hb9 hg9))
      refine bodyPost_ret (result_blk rfl _ (A + 1) _ _ _ _ rfl hb9 Try.underlying98 HIo.out) rfl ?_
      exact ⟨by rw [HO.out], ext_grown HE.out hg9 (by have := HAW.out; omega)⟩
end Go.Proofs.Ytjnnhkodkbhbbaa

/- What the walks of RefTimes17 need and no function of the document. Each theorem names its own conditions. -/
namespace Go.Proofs.Ytjnnhkodkbhbbaa
open Go.RowKit
set_option linter.unusedVariables false
set_option linter.unusedSimpArgs false

theorem tCo_lo (r : List Int) {i j : Nat} (h : j ≤ i) : tCo r i j = r.getD (i - j) 0 := by unfold tCo; rw [if_pos h]
theorem tCo_hi (r : List Int) {i j : Nat} (h : i < j) : tCo r i j = 320 * r.getD (i + 17 - j) 0 := by unfold tCo; rw [if_neg (by omega)]
theorem tList_le {h r : List Int} (hh : ∀ i, 0 ≤ h.getD i 0 ∧ h.getD i 0 ≤ 1024) (hr : ∀ i, 0 ≤ r.getD i 0 ∧ r.getD i 0 ≤ 255) : ∀ i, 0 ≤ (tList h r 17).getD i 0 ∧ (tList h r 17).getD i 0 ≤ 1420492800 := fun i => by
  rw [tList_getD h r 17 (Nat.le_refl _)]
  split
  · have := tRun_bound hh hr i 17
    omega
  · omega

end Go.Proofs.Ytjnnhkodkbhbbaa

/- The walk of the document's own product of seventeen digits. Each theorem names its own conditions. -/
namespace Go.Proofs.Ytjnnhkodkbhbbaa
open Go.RowKit
set_option linter.unusedVariables false
set_option linter.unusedSimpArgs false

set_option maxRecDepth 100000 in
set_option maxHeartbeats 16000000 in
theorem times17_any (H R : List Int) (w : World) (hl : H.length = 17) (rl : R.length = 17) (hh : ∀ i, 0 ≤ H.getD i 0 ∧ H.getD i 0 ≤ 1024) (hr : ∀ i, 0 ≤ R.getD i 0 ∧ R.getD i 0 ≤ 255) :
    Calls Try.prog 63 #[.agg (ints .i64 H).toArray, .agg (ints .i64 R).toArray] w fun e w' => e = .returned (.agg (ints .i64 (qThree (tList H R 17))).toArray) ∧ Below w.heap.size w w' := by
  have HHL := Lib.hid hl
  have HRL := Lib.hid rl
  have HH := Lib.hid hh
  have HR := Lib.hid hr
  have HB := Lib.hid (boxes4 w (ints .i64 H) (ints .i64 R) (ints .i64 (List.replicate 17 0)) (ints .i64 (List.replicate 17 0)) 98 98 98 98)
  clear hl rl hh hr
  go_enter Try.func63, Try.ntmps63
  go_upto_region 2 with (fail)
  obtain ⟨H1, H2, H3, H4, HE⟩ := HB.out
  change Code.wp _ _ _ _ ((((w.alloc (.cells (ints .i64 H).toArray 98)).alloc (.cells (ints .i64 R).toArray 98)).alloc (.cells (ints .i64 (List.replicate 17 0)).toArray 98)).alloc (.cells (ints .i64 (List.replicate 17 0)).toArray 98))
  generalize (((w.alloc (.cells (ints .i64 H).toArray 98)).alloc (.cells (ints .i64 R).toArray 98)).alloc (.cells (ints .i64 (List.replicate 17 0)).toArray 98)).alloc (.cells (ints .i64 (List.replicate 17 0)).toArray 98) = wa at *
  obtain ⟨A, hA⟩ : ∃ A, A = w.heap.size := ⟨_, rfl⟩
  have HAW : Hid (w.heap.size ≤ A) := Lib.hid (by omega)
  rw [← hA] at H1 H2 H3 H4 ⊢
  have H1 := Lib.hid H1
  have H2 := Lib.hid H2
  have H3 := Lib.hid H3
  have H4 : Hid (Blk wa (A + 1 + 1 + 1) (ints .i64 (tList H R 0)) 98) := Lib.hid H4
  have HE : Hid (Ext w wa) := Lib.hid HE
  clear hA HB
  go_wp2_with fail
  go_loopw [6] (fun iv wr => ∃ (i : Nat), i ≤ 17 ∧ iv = .int .i64 (i : Int) ∧ Blk wr A (ints .i64 H) 98 ∧ Blk wr (A + 1) (ints .i64 R) 98 ∧ Blk wr (A + 1 + 1) (ints .i64 (List.replicate 17 0)) 98 ∧ Blk wr (A + 1 + 1 + 1) (ints .i64 (tList H R i)) 98 ∧ Ext w wr) (fun iv _ => 17 - (intOf iv).toNat)
  case atStart => exact ⟨0, by omega, rfl, H1.out, H2.out, H3.out, H4.out, HE.out⟩
  case round =>
    clear H1 H2 H3 H4 HE
    obtain ⟨i, hi, rfl, hb1, hb2, hb3, hb4, hbel⟩ := hrel
    have i0 : (0 : Int) ≤ (i : Int) := Int.natCast_nonneg _
    have H1 := Lib.hid hb1
    have H2 := Lib.hid hb2
    have H3 := Lib.hid hb3
    have H4 := Lib.hid hb4
    have HE := Lib.hid hbel
    clear hb1 hb2 hb3 hb4 hbel
    by_cases hli : i < 17
    · have i1 : (i : Int) < 17 := by omega
      have HTB := Lib.hid (fun j => tRun_bound HH.out HR.out i j)
      go_wp2_with fail
      go_loopw [7, 8] (fun uv jv wq => ∃ (j : Nat), j ≤ i + 1 ∧ uv = .int .i64 (tRun H R i j) ∧ jv = .int .i64 (j : Int) ∧ Ext wr wq) (fun _ jv _ => i + 1 - (intOf jv).toNat)
      case atStart => exact ⟨0, by omega, rfl, rfl, Ext.refl _⟩
      case round =>
        obtain ⟨j, hj, rfl, rfl, hX⟩ := hrel
        have j0 : (0 : Int) ≤ (j : Int) := Int.natCast_nonneg _
        have HX := Lib.hid hX
        obtain ⟨b0, b1⟩ := HTB.out j
        clear hX
        by_cases hlj : j ≤ i
        · have j1 : (j : Int) ≤ (i : Int) := by omega
          have j2 : (j : Int) < 17 := by omega
          obtain ⟨d, hd⟩ : ∃ d, d = i - j := ⟨_, rfl⟩
          have d1 : (i : Int) - (j : Int) = (d : Int) := by omega
          have d2 : (0 : Int) ≤ (d : Int) := by omega
          have d3 : (d : Int) < 17 := by omega
          have c1 := digit_cell (ext_blk H1.out HX.out) (i := j) (by rw [HHL.out]; omega)
          have c2 := digit_cell (ext_blk H2.out HX.out) (i := d) (by rw [HRL.out]; omega)
          obtain ⟨e0, e1⟩ := HH.out j
          obtain ⟨g0, g1⟩ := HR.out d
          have HT : Hid (tRun H R i (j + 1) = tRun H R i j + H.getD j 0 * R.getD d 0) := Lib.hid (by rw [tRun, tCo_lo R hlj, hd])
          have b2 : tRun H R i j ≤ 1420492800 := by omega
          generalize H.getD j 0 = x at *
          generalize R.getD d 0 = y at *
          generalize tRun H R i j = u at *
          have p0 : 0 ≤ x * y := Int.mul_nonneg e0 g0
          have p1 : x * y ≤ 1024 * 255 := Int.mul_le_mul e1 g1 g0 (by omega)
          have p2 : x * y ≤ 261120 := p1
          have w1 : -9223372036854775808 ≤ x * y := by omega
          have w2 : x * y ≤ 9223372036854775807 := by omega
          have w3 : -9223372036854775808 ≤ u + x * y := by omega
          have w4 : u + x * y ≤ 9223372036854775807 := by omega
          clear b1 hd p1 p2 p0
          go_wp2_with fail
          go_region
          go_wp2_with fail
          go_roundw
          case rel => exact ⟨j + 1, by omega, by rw [HT.out], by go_num, HX.out.trans (Ext.drew _)⟩
          case measure => simp [intOf]; omega
        · have hji : j = i + 1 := by omega
          subst hji
          have j1 : ¬ (((i + 1 : Nat) : Int) ≤ (i : Int)) := by omega
          rw [show ((i + 1 : Nat) : Int) = (i : Int) + 1 from by omega] at j1 j0 ⊢
          clear b0 b1
          have H1 := Lib.hid (ext_blk H1.out HX.out)
          have H2 := Lib.hid (ext_blk H2.out HX.out)
          have H3 := Lib.hid (ext_blk H3.out HX.out)
          have H4 := Lib.hid (ext_blk H4.out HX.out)
          have HE := Lib.hid (HE.out.trans HX.out)
          clear HX
          go_wp2_with fail
          go_loopw [7, 9] (fun uv jv wq => ∃ (j : Nat), i + 1 ≤ j ∧ j ≤ 17 ∧ uv = .int .i64 (tRun H R i j) ∧ jv = .int .i64 (j : Int) ∧ Ext wr wq) (fun _ jv _ => 17 - (intOf jv).toNat)
          case atStart => exact ⟨i + 1, by omega, by omega, rfl, by rw [show ((i + 1 : Nat) : Int) = (i : Int) + 1 from by omega], Ext.refl _⟩
          case round =>
            clear j0 j1
            obtain ⟨j, hj1, hj2, rfl, rfl, hX⟩ := hrel
            have j0 : (0 : Int) ≤ (j : Int) := Int.natCast_nonneg _
            have HX := Lib.hid hX
            obtain ⟨b0, b1⟩ := HTB.out j
            clear hX
            by_cases hlj : j < 17
            · have j1 : (j : Int) < 17 := by omega
              obtain ⟨d, hd⟩ : ∃ d, d = i + 17 - j := ⟨_, rfl⟩
              have d1 : (i : Int) + 17 - (j : Int) = (d : Int) := by omega
              have d2 : (0 : Int) ≤ (d : Int) := by omega
              have d3 : (d : Int) < 17 := by omega
              have c1 := digit_cell (ext_blk H1.out HX.out) (i := j) (by rw [HHL.out]; omega)
              have c2 := digit_cell (ext_blk H2.out HX.out) (i := d) (by rw [HRL.out]; omega)
              obtain ⟨e0, e1⟩ := HH.out j
              obtain ⟨g0, g1⟩ := HR.out d
              have HT : Hid (tRun H R i (j + 1) = tRun H R i j + 320 * H.getD j 0 * R.getD d 0) := Lib.hid (by rw [tRun, tCo_hi R (by omega), hd, ← Int.mul_assoc, Int.mul_comm (H.getD j 0) 320])
              have b2 : tRun H R i j ≤ 1420492800 := by omega
              generalize H.getD j 0 = x at *
              generalize R.getD d 0 = y at *
              generalize tRun H R i j = u at *
              have p0 : 0 ≤ 320 * x * y := Int.mul_nonneg (by omega) g0
              have p1 : 320 * x * y ≤ 327680 * 255 := Int.mul_le_mul (by omega) g1 g0 (by omega)
              have p2 : 320 * x * y ≤ 83558400 := p1
              have w5 : -9223372036854775808 ≤ 320 * x := by omega
              have w6 : 320 * x ≤ 9223372036854775807 := by omega
              have w1 : -9223372036854775808 ≤ 320 * x * y := by omega
              have w2 : 320 * x * y ≤ 9223372036854775807 := by omega
              have w3 : -9223372036854775808 ≤ u + 320 * x * y := by omega
              have w4 : u + 320 * x * y ≤ 9223372036854775807 := by omega
              clear b1 hd p1 p2 p0
              go_wp2_with fail
              go_region
              go_wp2_with fail
              go_roundw
              case rel => exact ⟨j + 1, by omega, by omega, by rw [HT.out], by go_num, HX.out.trans (Ext.drew _)⟩
              case measure => simp [intOf]; omega
            · have hji : j = 17 := by omega
              subst hji
              rw [show ((17 : Nat) : Int) = 17 from rfl]
              have hb4 := ext_blk H4.out HX.out
              have tl := tList_length H R i
              have c1 := digit_cell hb4 (i := i) (by rw [tl]; omega)
              have f1 := hb4.free i
              have H1 := Lib.hid (ext_blk H1.out HX.out)
              have H2 := Lib.hid (ext_blk H2.out HX.out)
              have H3 := Lib.hid (ext_blk H3.out HX.out)
              have H4 := Lib.hid hb4
              have HE := Lib.hid (HE.out.trans HX.out)
              have HL1 : Hid (tList H R (i + 1) = (tList H R i).set i (tRun H R i 17)) := Lib.hid rfl
              clear hb4 tl b0 b1 HX
              generalize tRun H R i 17 = u at *
              go_wp2_with fail
              go_roundw
              case rel => exact ⟨i + 1, by omega, by go_num, H1.out.far (by simp; omega) _, H2.out.far (by simp; omega) _, H3.out.far (by simp) _, by rw [HL1.out]; exact H4.out.seti i _, Below.setCell HE.out (by have := HAW.out; simp; omega) _⟩
              case measure => simp [intOf]; omega
    · have hi17 : i = 17 := by omega
      subst hi17
      have HLE := Lib.hid (tList_le HH.out HR.out)
      have HTL := Lib.hid (tList_length H R 17)
      have HCAR := Lib.hid (fun w => carried17_any (tList H R 17) w HTL.out (fun i => ⟨(HLE.out i).1, Int.le_trans (HLE.out i).2 (by decide)⟩))
      have HQL : Hid ((qThree (tList H R 17)).length = 17) := Lib.hid (by rw [← qN_three, qN_length]; exact HTL.out)
      have HI0 := Lib.hid (d17_size HTL.out)
      have HI3 := Lib.hid (d17_size HQL.out)
      generalize hx : tList H R 17 = x at *
      have HXE := Lib.hid hx
      clear hx
      have HLo : Hid ((ints .i64 (qThree x)).length = (ints .i64 (List.replicate 17 0)).length) := Lib.hid (by rw [ints_length, HQL.out, ints_length, List.length_replicate])
      go_wp2_with (refine wpList_load_blk rfl _ _ rfl (A + 1 + 1 + 1) rfl _ _ _ _ H4.out Try.underlying98 HI0.out ?_)
      refine (HCAR.out wr).mono ?_
      rintro e w1 ⟨rfl, hb⟩
      have H3 := Lib.hid (ext_blk H3.out hb)
      have HE := Lib.hid (HE.out.trans hb)
      clear hb
      go_wp2_with (refine wpList_store_blk rfl _ _ _ rfl (A + 1 + 1) (ints .i64 (qThree x)) rfl rfl _ _ H3.out HLo.out HI3.out (ints_one _ _) ?_; intro w9 hb9 hg9)
      refine bodyPost_ret (result_blk rfl _ (A + 1 + 1) _ _ _ _ rfl hb9 Try.underlying98 HI3.out) rfl ?_
      exact ⟨by rw [HXE.out], ext_grown HE.out hg9 (by have := HAW.out; omega)⟩
end Go.Proofs.Ytjnnhkodkbhbbaa

/- What the walks of RefWhole17 need and no function of the document. Each theorem names its own conditions. -/
namespace Go.Proofs.Ytjnnhkodkbhbbaa
open Go.RowKit
set_option linter.unusedVariables false
set_option linter.unusedSimpArgs false

theorem can17_le {h : List Int} (hc : Can17 h) : ∀ i, 0 ≤ h.getD i 0 ∧ h.getD i 0 ≤ 1099511627776 := fun i => by
  have := hc.digit i
  omega
theorem can17_three {h : List Int} (hc : Can17 h) : Can17 (qThree h) ∧ gV 256 (qThree h) % (pQ : Int) = gV 256 h % (pQ : Int) :=
  qThree_val h hc.1 (fun i => (hc.digit i).1) (by have := hc.range.2; unfold two130 at this; omega)
theorem wOut_length {h : List Int} (hc : Can17 h) : (wOut h).length = 17 := (wOut_val hc).1

end Go.Proofs.Ytjnnhkodkbhbbaa

/- The walk of the document's own whole number of seventeen digits. Each theorem names its own conditions. -/
namespace Go.Proofs.Ytjnnhkodkbhbbaa
open Go.RowKit
set_option linter.unusedVariables false
set_option linter.unusedSimpArgs false

set_option maxRecDepth 100000 in
set_option maxHeartbeats 16000000 in
theorem whole17_any (H : List Int) (w : World) (hc : Can17 H) :
    Calls Try.prog 64 #[.agg (ints .i64 H).toArray] w fun e w' => e = .returned (.agg (ints .i64 (wOut (qThree H))).toArray) ∧ Below w.heap.size w w' := by
  have HL := Lib.hid hc.1
  have HCAR := Lib.hid (fun w => carried17_any H w hc.1 (can17_le hc))
  have HC3 := Lib.hid (can17_three hc).1
  have HB := Lib.hid (boxes2 w (ints .i64 H) (ints .i64 (List.replicate 17 0)) 98 98)
  have HI0 := Lib.hid (d17_size hc.1)
  have HI3 := Lib.hid (d17_size (can17_three hc).1.1)
  have HLH : Hid ((ints .i64 (qThree H)).length = (ints .i64 H).length) := Lib.hid (by rw [ints_length, ints_length, (can17_three hc).1.1, hc.1])
  clear hc
  go_enter Try.func64, Try.ntmps64
  go_upto_region 1 with (fail)
  obtain ⟨H1, H2, HE⟩ := HB.out
  change Code.wp _ _ _ _ ((w.alloc (.cells (ints .i64 H).toArray 98)).alloc (.cells (ints .i64 (List.replicate 17 0)).toArray 98))
  generalize (w.alloc (.cells (ints .i64 H).toArray 98)).alloc (.cells (ints .i64 (List.replicate 17 0)).toArray 98) = wa at *
  obtain ⟨A, hA⟩ : ∃ A, A = w.heap.size := ⟨_, rfl⟩
  have HAW : Hid (w.heap.size ≤ A) := Lib.hid (by omega)
  rw [← hA] at H1 H2 ⊢
  have H1 := Lib.hid H1
  have H2 := Lib.hid H2
  have HE : Hid (Ext w wa) := Lib.hid HE
  clear hA HB
  go_wp2_with (refine wpList_load_blk rfl _ _ rfl A rfl _ _ _ _ H1.out Try.underlying98 HI0.out ?_)
  refine (HCAR.out wa).mono ?_
  rintro e w1 ⟨rfl, hb⟩
  have H1 := Lib.hid (ext_blk H1.out hb)
  have H2 := Lib.hid (ext_blk H2.out hb)
  have HE := Lib.hid (HE.out.trans hb)
  clear hb HCAR
  generalize hqh : qThree H = h at *
  have HQH := Lib.hid hqh
  clear hqh
  go_upto_region 2 with (refine wpList_store_blk rfl _ _ _ rfl A (ints .i64 h) rfl rfl _ _ H1.out HLH.out HI3.out (ints_one _ _) ?_; intro w2 hb2 hg2)
  have H2 := Lib.hid (H2.out.grown hg2 (fun e => by have h := Option.some.inj e; omega))
  have HE := Lib.hid (ext_grown HE.out hg2 HAW.out)
  have H1 := Lib.hid hb2
  clear hb2 hg2
  obtain ⟨G, hG⟩ : ∃ G, G = w2.heap.size := ⟨_, rfl⟩
  have HGA : Hid (A + 1 < G) := Lib.hid (by have := H2.out.lt; omega)
  have HZ := Lib.hid (Blk.made w2 (ints .i64 (List.replicate 17 0)) 98)
  have HXA := Ext.alloc w2 (.cells (ints .i64 (List.replicate 17 0)).toArray 98)
  have H1a := Lib.hid (ext_blk H1.out HXA)
  have H2a := Lib.hid (ext_blk H2.out HXA)
  have HEa := Lib.hid (HE.out.trans HXA)
  have HS := Lib.hid HE.out.size
  have HLZ : Hid ((ints .i64 h).length = (ints .i64 (List.replicate 17 0)).length) := Lib.hid (by rw [ints_length, HC3.out.1, ints_length, List.length_replicate])
  clear HXA
  go_upto_region 3 with (first | (refine wpList_load_blk rfl _ _ rfl A rfl _ _ _ _ H1.out Try.underlying98 HI3.out ?_) | (refine wpList_store_blk rfl _ _ _ rfl w2.heap.size (ints .i64 h) rfl rfl _ _ HZ.out HLZ.out HI3.out (ints_one _ _) ?_; intro w3 hb3 hg3))
  have H1 := Lib.hid (H1a.out.grown hg3 (fun e => by have h := Option.some.inj e; have := HGA.out; omega))
  have H2 := Lib.hid (H2a.out.grown hg3 (fun e => by have h := Option.some.inj e; have := HGA.out; omega))
  have HE := Lib.hid (ext_grown HEa.out hg3 HS.out)
  have H3 := Lib.hid hb3
  have HGW : Hid (w.heap.size ≤ G) := Lib.hid (by rw [hG]; exact HS.out)
  rw [← hG] at H3 ⊢
  clear hb3 hg3 hG HZ H1a H2a HEa HS
  go_wp2_with fail
  go_loopw [4, 5] (fun uv iv wr => ∃ (i : Nat), i ≤ 17 ∧ uv = .int .i64 (wRun h i).2 ∧ iv = .int .i64 (i : Int) ∧ Blk wr A (ints .i64 h) 98 ∧ Blk wr (A + 1) (ints .i64 (List.replicate 17 0)) 98 ∧ Blk wr G (ints .i64 (wRun h i).1) 98 ∧ Ext w wr) (fun _ iv _ => 17 - (intOf iv).toNat)
  case atStart => exact ⟨0, by omega, rfl, rfl, H1.out, H2.out, H3.out, HE.out⟩
  case round =>
    clear H1 H2 H3 HE
    obtain ⟨i, hi, rfl, rfl, hb1, hb2, hb3, hbel⟩ := hrel
    have i0 : (0 : Int) ≤ (i : Int) := Int.natCast_nonneg _
    have hrl : (wRun h i).1.length = 17 := by rw [wRun_length]; exact HC3.out.1
    obtain ⟨hu0, hu1⟩ := wRun_u h HC3.out.digit i
    have H1 := Lib.hid hb1
    have H2 := Lib.hid hb2
    have H3 := Lib.hid hb3
    have HE := Lib.hid hbel
    by_cases hli : i < 17
    · have i1 : (i : Int) < 17 := by omega
      have c1 := digit_cell hb3 (i := i) (by rw [hrl]; omega)
      have f1 := hb3.free i
      have hz := HC3.out.digit i
      have hfar := wRun_far h i i (Nat.le_refl _)
      have HS1 : Hid ((wRun h (i + 1)).1 = (wRun h i).1.set i (((wRun h i).2 + (wRun h i).1.getD i 0) % 256)) := Lib.hid rfl
      have HS2 : Hid ((wRun h (i + 1)).2 = ((wRun h i).2 + (wRun h i).1.getD i 0) / 256) := Lib.hid rfl
      rw [← hfar] at hz
      clear hb1 hb2 hb3 hbel hfar
      generalize (wRun h i).1.getD i 0 = z at *
      generalize (wRun h i).2 = u at *
      obtain ⟨z0, z1⟩ := hz
      have a1 := and_i64_255 (u + z) (by omega) (by omega)
      go_wp2_with fail
      go_roundw
      case rel =>
        refine ⟨i + 1, by omega, by rw [HS2.out], by go_num, H1.out.far (by have := HGA.out; simp; omega) _, H2.out.far (by have := HGA.out; simp; omega) _, ?_, Below.setCell HE.out (by have := HGW.out; simp; omega) _⟩
        rw [HS1.out]
        exact H3.out.seti i _
      case measure => simp [intOf]; omega
    · have hi17 : i = 17 := by omega
      subst hi17
      have c1 := digit_cell hb3 (i := 16) (by rw [hrl]; omega)
      have f1 := hb3.free 16
      have hsm := wRun_small h HC3.out.1 17 (Nat.le_refl _) 16 (by omega)
      have HW : Hid (wOut h = if 4 ≤ (wRun h 17).1.getD 16 0 then (wRun h 17).1.set 16 ((wRun h 17).1.getD 16 0 - 4) else h) := Lib.hid rfl
      have HWL := Lib.hid (wOut_length HC3.out)
      clear hb1 hb2 hb3 hbel
      have HRL := Lib.hid hrl
      generalize (wRun h 17).1 = rr at *
      clear hu0 hu1
      generalize (wRun h 17).2 = u at *
      have HGS : Hid (∀ z : Int, Blk (wr.setCell ⟨G, 16, none⟩ (.int .i64 z)) G (ints .i64 (rr.set 16 z)) 98) := Lib.hid (fun z => H3.out.seti 16 z)
      generalize hzz : rr.getD 16 0 = z at *
      obtain ⟨z0, z1⟩ := hsm
      by_cases h4 : 4 ≤ z
      · have hw : wOut h = rr.set 16 (z - 4) := by rw [HW.out, if_pos h4]
        obtain ⟨o, ho⟩ : ∃ o, o = wOut h := ⟨_, rfl⟩
        have HO := Lib.hid ho
        have HG := Lib.hid (HGS.out (z - 4))
        rw [← hw, ← ho] at HG
        rw [← ho] at HWL
        have H2n := Lib.hid (H2.out.far (a := ⟨G, 16, none⟩) (by have := HGA.out; simp; omega) (.int .i64 (z - 4)))
        have HEn : Hid (Ext w (wr.setCell ⟨G, 16, none⟩ (.int .i64 (z - 4)))) := Lib.hid (Below.setCell HE.out (by have := HGW.out; simp; omega) _)
        have HIo := Lib.hid (d17_size HWL.out)
        have HLo : Hid ((ints .i64 o).length = (ints .i64 (List.replicate 17 0)).length) := Lib.hid (by rw [ints_length, HWL.out, ints_length, List.length_replicate])
        clear hw ho hzz
        go_wp2_with (first | (refine wpList_load_blk rfl _ _ rfl G rfl _ _ _ _ HG.out Try.underlying98 HIo.out ?_) | (refine wpList_store_blk rfl _ _ _ rfl (A + 1) (ints .i64 o) rfl rfl _ _ H2n.out HLo.out HIo.out (ints_one _ _) ?_; intro w9 hb9 hg9))
        refine bodyPost_ret (result_blk rfl _ (A + 1) _ _ _ _ rfl hb9 Try.underlying98 HIo.out) rfl ?_
        exact ⟨by rw [HQH.out, HO.out], ext_grown HEn.out hg9 (by have := HAW.out; omega)⟩
      · have hw : wOut h = h := by rw [HW.out, if_neg h4]
        have HO := Lib.hid hw
        have z3 : z < 4 := by omega
        clear hw hzz
        go_wp2_with (first | (refine wpList_load_blk rfl _ _ rfl A rfl _ _ _ _ H1.out Try.underlying98 HI3.out ?_) | (refine wpList_store_blk rfl _ _ _ rfl (A + 1) (ints .i64 h) rfl rfl _ _ H2.out HLZ.out HI3.out (ints_one _ _) ?_; intro w9 hb9 hg9))
        refine bodyPost_ret (result_blk rfl _ (A + 1) _ _ _ _ rfl hb9 Try.underlying98 HI3.out) rfl ?_
        exact ⟨by rw [HQH.out, HO.out], ext_grown HE.out hg9 (by have := HAW.out; omega)⟩
end Go.Proofs.Ytjnnhkodkbhbbaa

/- What the walks of RefPoly need and no function of the document. Each theorem names its own conditions. -/
namespace Go.Proofs.Ytjnnhkodkbhbbaa
open Go.RowKit
set_option linter.unusedVariables false
set_option linter.unusedSimpArgs false

theorem Try.arr58 : (Try.prog.info? 58).map (·.size) = some 16 := by kernel_rfl
theorem tag_size {l : List UInt8} (h : l.length = 16) : (Try.prog.info? 58).map (·.size) = some (l.map bval).length := by rw [List.length_map, h]; exact Try.arr58
theorem and_i64_15 (a : Int) (h1 : -9223372036854775808 ≤ a) (h2 : a ≤ 9223372036854775807) : bits .and .i64 a 15 = a % 16 := by
  have h : (BitVec.ofInt 64 15).toNat = 2 ^ 4 - 1 := by decide
  have key : (BitVec.ofInt 64 a &&& BitVec.ofInt 64 15).toNat = (a % ((2 ^ 64 : Nat) : Int)).toNat % 2 ^ 4 := by
    rw [BitVec.toNat_and, BitVec.toNat_ofInt, h, Nat.and_two_pow_sub_one_eq_mod]
  show IntKind.i64.wrap ((BitVec.ofInt 64 a &&& BitVec.ofInt 64 15).toNat : Nat) = _
  rw [key, IntKind.wrap_i64]
  omega
theorem and_252_fin : ∀ n : Fin 256, bits .and .i64 (n.val : Int) 252 = (n.val : Int) / 4 * 4 := by decide +kernel
theorem and_i64_252 (a : Int) (h1 : 0 ≤ a) (h2 : a ≤ 255) : bits .and .i64 a 252 = a / 4 * 4 := by
  obtain ⟨n, rfl⟩ : ∃ n : Nat, a = (n : Int) := ⟨a.toNat, by omega⟩
  exact and_252_fin ⟨n, by omega⟩
theorem can17_zero : Can17 (List.replicate 17 0) := ⟨by simp, fun i hi => by rw [getD_eq (by simp; omega), List.getElem_replicate]; omega, by decide, by decide⟩
theorem can17_255 {h : List Int} (hc : Can17 h) : ∀ i, 0 ≤ h.getD i 0 ∧ h.getD i 0 ≤ 255 := fun i => by
  have := hc.digit i
  omega

end Go.Proofs.Ytjnnhkodkbhbbaa

/- The walk of the document's own Poly1305. Each theorem names its own conditions. -/
namespace Go.Proofs.Ytjnnhkodkbhbbaa
open Go.RowKit
set_option linter.unusedVariables false
set_option linter.unusedSimpArgs false

set_option maxRecDepth 100000 in
set_option maxHeartbeats 16000000 in
theorem rPoly_any (kb b : List UInt8) (bv : Value) (w : World) (hk : kb.length = 32) (hb : Row1 w bv (b.map bval)) (hbl : b.length ≤ 1099511627776) :
    Calls Try.prog 47 #[.agg (kb.map bval).toArray, bv] w fun e w' => e = .returned (.agg ((polyTag kb b).map bval).toArray) ∧ Below w.heap.size w w' := by
  have HKL := Lib.hid hk
  have HBL := Lib.hid hbl
  have HR := Lib.hid hb
  obtain ⟨ab, cb, rfl, r1, r2, _, r4⟩ := id hb
  rw [List.length_map] at r1 HR ⊢
  unfold maxLen at r2
  have HC := Lib.hid r4
  have HB := Lib.hid (boxes4 w (kb.map bval) (ints .u8 (List.replicate 16 0)) (ints .i64 (List.replicate 17 0)) (ints .i64 (List.replicate 17 0)) 34 58 98 98)
  clear hk hb hbl r4
  go_enter Try.func47, Try.ntmps47
  go_upto_region 3 with (fail)
  obtain ⟨H1, H2, H3, H4, HE⟩ := HB.out
  change Code.wp _ _ _ _ ((((w.alloc (.cells (kb.map bval).toArray 34)).alloc (.cells (ints .u8 (List.replicate 16 0)).toArray 58)).alloc (.cells (ints .i64 (List.replicate 17 0)).toArray 98)).alloc (.cells (ints .i64 (List.replicate 17 0)).toArray 98))
  generalize (((w.alloc (.cells (kb.map bval).toArray 34)).alloc (.cells (ints .u8 (List.replicate 16 0)).toArray 58)).alloc (.cells (ints .i64 (List.replicate 17 0)).toArray 98)).alloc (.cells (ints .i64 (List.replicate 17 0)).toArray 98) = wa at *
  obtain ⟨A, hA⟩ : ∃ A, A = w.heap.size := ⟨_, rfl⟩
  have HAW : Hid (w.heap.size ≤ A) := Lib.hid (by omega)
  rw [← hA] at H1 H2 H3 H4 ⊢
  have H1 := Lib.hid H1
  have H2 := Lib.hid H2
  have H3 : Hid (Blk wa (A + 1 + 1) (ints .i64 (rA kb 0)) 98) := Lib.hid H3
  have H4 := Lib.hid H4
  have HE : Hid (Ext w wa) := Lib.hid HE
  clear hA HB
  go_wp2_with fail
  go_loopw [7] (fun iv wr => ∃ (k : Nat), k ≤ 16 ∧ iv = .int .i64 ((k : Int)) ∧ Blk wr A (kb.map bval) 34 ∧ Blk wr (A + 1) (ints .u8 (List.replicate 16 0)) 58 ∧ Blk wr (A + 1 + 1) (ints .i64 (rA kb k)) 98 ∧ Blk wr (A + 1 + 1 + 1) (ints .i64 (List.replicate 17 0)) 98 ∧ Ext w wr) (fun iv _ => 16 - (intOf iv).toNat)
  case atStart => exact ⟨0, by omega, rfl, H1.out, H2.out, H3.out, H4.out, HE.out⟩
  case round =>
    clear H1 H2 H3 H4 HE
    obtain ⟨k, hk, rfl, hb1, hb2, hb3, hb4, hbel⟩ := hrel
    have k0 : (0 : Int) ≤ (k : Int) := Int.natCast_nonneg _
    have H1 := Lib.hid hb1
    have H2 := Lib.hid hb2
    have H3 := Lib.hid hb3
    have H4 := Lib.hid hb4
    have HE := Lib.hid hbel
    by_cases hlk : k < 16
    · have k1 : (k : Int) < 16 := by omega
      have k2 : (k : Int) < 32 := by omega
      have k3 : (k : Int) < 17 := by omega
      have c1 := hb1.cell k
      rw [bval_get (by rw [HKL.out]; omega)] at c1
      have c2 := digit_cell hb3 (i := k) (by rw [rA_length]; omega)
      have f2 := hb3.free k
      have HS : Hid (rA kb (k + 1) = (rA kb k).set k ((kb.getD k 0).toNat : Int)) := Lib.hid rfl
      have y0 := (kb.getD k 0).toNat_lt
      clear hb1 hb2 hb3 hb4 hbel
      change wr.cell? ⟨A, k, none⟩ = some (.int .u8 ((kb.getD k 0).toNat : Int)) at c1
      generalize (kb.getD k 0).toNat = y at *
      have y1 : (y : Int) ≤ 255 := by omega
      have y2 : (0 : Int) ≤ (y : Int) := by omega
      go_wp2_with fail
      go_roundw
      case rel => exact ⟨k + 1, by omega, by go_num, H1.out.far (by simp; omega) _, H2.out.far (by simp) _, by rw [HS.out]; exact H3.out.seti k _, H4.out.far (by simp) _, Below.setCell HE.out (by have := HAW.out; simp; omega) _⟩
      case measure => simp [intOf]; omega
    · have hk16 : k = 16 := by omega
      subst hk16
      rw [show ((16 : Nat) : Int) = 16 from rfl]
      clear hb1 hb2 hb3 hb4 hbel
      have H3 : Hid (Blk wr (A + 1 + 1) (ints .i64 (rB kb 0)) 98) := Lib.hid H3.out
      go_wp2_with fail
      go_loopw [8] (fun iv wr => ∃ (k : Nat), k ≤ 4 ∧ iv = .int .i64 (3 + 4 * (k : Int)) ∧ Blk wr A (kb.map bval) 34 ∧ Blk wr (A + 1) (ints .u8 (List.replicate 16 0)) 58 ∧ Blk wr (A + 1 + 1) (ints .i64 (rB kb k)) 98 ∧ Blk wr (A + 1 + 1 + 1) (ints .i64 (List.replicate 17 0)) 98 ∧ Ext w wr) (fun iv _ => 20 - (intOf iv).toNat)
      case atStart => exact ⟨0, by omega, rfl, H1.out, H2.out, H3.out, H4.out, HE.out⟩
      case round =>
        clear H1 H2 H3 H4 HE
        obtain ⟨k, hk, rfl, hb1, hb2, hb3, hb4, hbel⟩ := hrel
        have k0 : (0 : Int) ≤ (k : Int) := Int.natCast_nonneg _
        have H1 := Lib.hid hb1
        have H2 := Lib.hid hb2
        have H3 := Lib.hid hb3
        have H4 := Lib.hid hb4
        have HE := Lib.hid hbel
        by_cases hlk : k < 4
        · have k1 : 3 + 4 * (k : Int) < 16 := by omega
          have k2 : (0 : Int) ≤ 3 + 4 * (k : Int) := by omega
          have k3 : 3 + 4 * (k : Int) < 17 := by omega
          have kn : (3 + 4 * (k : Int)).toNat = 3 + 4 * k := by omega
          have c1 := digit_cell hb3 (i := 3 + 4 * k) (by rw [rB_length]; omega)
          have f1 := hb3.free (3 + 4 * k)
          have hd := rB_digit kb k (3 + 4 * k) (by omega)
          have HS : Hid (rB kb (k + 1) = (rB kb k).set (3 + 4 * k) ((rB kb k).getD (3 + 4 * k) 0 % 16)) := Lib.hid rfl
          clear hb1 hb2 hb3 hb4 hbel
          generalize hz : (rB kb k).getD (3 + 4 * k) 0 = z at *
          clear hz
          obtain ⟨z0, z1⟩ := hd
          have a1 := and_i64_15 z (by omega) (by omega)
          go_wp2_with fail
          go_roundw
          case rel => exact ⟨k + 1, by omega, by go_num, H1.out.far (by simp; omega) _, H2.out.far (by simp) _, by rw [HS.out]; exact H3.out.seti _ _, H4.out.far (by simp) _, Below.setCell HE.out (by have := HAW.out; simp; omega) _⟩
          case measure => simp [intOf]; omega
        · have hk4 : k = 4 := by omega
          subst hk4
          rw [show ((4 : Nat) : Int) = 4 from rfl]
          rw [show (3 : Int) + 4 * 4 = 19 from rfl]
          clear hb1 hb2 hb3 hb4 hbel
          have H3 : Hid (Blk wr (A + 1 + 1) (ints .i64 (rC kb 0)) 98) := Lib.hid H3.out
          go_wp2_with fail
          go_loopw [9] (fun iv wr => ∃ (k : Nat), k ≤ 3 ∧ iv = .int .i64 (4 + 4 * (k : Int)) ∧ Blk wr A (kb.map bval) 34 ∧ Blk wr (A + 1) (ints .u8 (List.replicate 16 0)) 58 ∧ Blk wr (A + 1 + 1) (ints .i64 (rC kb k)) 98 ∧ Blk wr (A + 1 + 1 + 1) (ints .i64 (List.replicate 17 0)) 98 ∧ Ext w wr) (fun iv _ => 20 - (intOf iv).toNat)
          case atStart => exact ⟨0, by omega, rfl, H1.out, H2.out, H3.out, H4.out, HE.out⟩
          case round =>
            clear H1 H2 H3 H4 HE
            obtain ⟨k, hk, rfl, hb1, hb2, hb3, hb4, hbel⟩ := hrel
            have k0 : (0 : Int) ≤ (k : Int) := Int.natCast_nonneg _
            have H1 := Lib.hid hb1
            have H2 := Lib.hid hb2
            have H3 := Lib.hid hb3
            have H4 := Lib.hid hb4
            have HE := Lib.hid hbel
            by_cases hlk : k < 3
            · have k1 : 4 + 4 * (k : Int) < 16 := by omega
              have k2 : (0 : Int) ≤ 4 + 4 * (k : Int) := by omega
              have k3 : 4 + 4 * (k : Int) < 17 := by omega
              have kn : (4 + 4 * (k : Int)).toNat = 4 + 4 * k := by omega
              have c1 := digit_cell hb3 (i := 4 + 4 * k) (by rw [rC_length]; omega)
              have f1 := hb3.free (4 + 4 * k)
              have hd := rC_digit kb k (4 + 4 * k) (by omega)
              have HS : Hid (rC kb (k + 1) = (rC kb k).set (4 + 4 * k) ((rC kb k).getD (4 + 4 * k) 0 / 4 * 4)) := Lib.hid rfl
              clear hb1 hb2 hb3 hb4 hbel
              generalize hz : (rC kb k).getD (4 + 4 * k) 0 = z at *
              clear hz
              obtain ⟨z0, z1⟩ := hd
              have a1 := and_i64_252 z z0 z1
              go_wp2_with fail
              go_roundw
              case rel => exact ⟨k + 1, by omega, by go_num, H1.out.far (by simp; omega) _, H2.out.far (by simp) _, by rw [HS.out]; exact H3.out.seti _ _, H4.out.far (by simp) _, Below.setCell HE.out (by have := HAW.out; simp; omega) _⟩
              case measure => simp [intOf]; omega
            · have hk3 : k = 3 := by omega
              subst hk3
              rw [show ((3 : Nat) : Int) = 3 from rfl]
              rw [show (4 : Int) + 4 * 3 = 16 from rfl]
              clear hb1 hb2 hb3 hb4 hbel
              clear hk k0 hlk
              have HRL := Lib.hid (rC_length kb 3)
              have HRD := Lib.hid (fun i => rC_digit kb 3 i (by omega))
              have HRV := Lib.hid (rC_val kb)
              generalize rC kb 3 = r at *
              go_wp2_with fail
              go_loopw [10] (fun iv wr => ∃ (n f : Nat) (Hn : List Int), f = 16 * n ∧ n ≤ (b.length + 15) / 16 ∧ iv = .int .i64 (f : Int) ∧ Can17 Hn ∧ gV 256 Hn % (pQ : Int) = pAcc (pR kb) b n ∧ Blk wr A (kb.map bval) 34 ∧ Blk wr (A + 1) (ints .u8 (List.replicate 16 0)) 58 ∧ Blk wr (A + 1 + 1) (ints .i64 (r)) 98 ∧ Blk wr (A + 1 + 1 + 1) (ints .i64 (Hn)) 98 ∧ Ext w wr) (fun iv _ => b.length + 16 - (intOf iv).toNat)
              case atStart => exact ⟨0, 0, _, rfl, by omega, rfl, can17_zero, by rw [gV_zeros]; rfl, H1.out, H2.out, H3.out, H4.out, HE.out⟩
              case round =>
                clear H1 H2 H3 H4 HE
                obtain ⟨n, f, Hn, hf, hn, rfl, hcan, hacc, hb1, hb2, hb3, hb4, hbel⟩ := hrel
                have f0 : (0 : Int) ≤ (f : Int) := Int.natCast_nonneg _
                have HF := Lib.hid hf
                have HN := Lib.hid hn
                have HCAN := Lib.hid hcan
                have HACC := Lib.hid hacc
                have H1 := Lib.hid hb1
                have H2 := Lib.hid hb2
                have H3 := Lib.hid hb3
                have H4 := Lib.hid hb4
                have HE := Lib.hid hbel
                clear hf hn hcan hacc hb1 hb2 hb3 hb4 hbel
                by_cases hlf : f < b.length
                · have f1 : (f : Int) < (b.length : Int) := by omega
                  have HXA := Ext.alloc wr (.cells (ints .i64 (List.replicate 17 0)).toArray 98)
                  obtain ⟨C, hC⟩ : ∃ C, C = wr.heap.size := ⟨_, rfl⟩
                  have HCA : Hid (A + 1 + 1 + 1 < C) := Lib.hid (by have := H4.out.lt; omega)
                  have H5 : Hid (Blk (wr.alloc (.cells (ints .i64 (List.replicate 17 0)).toArray 98)) C (ints .i64 (cA b n 0)) 98) := Lib.hid (by rw [hC]; exact Blk.made wr (ints .i64 (List.replicate 17 0)) 98)
                  have H1 := Lib.hid (ext_blk H1.out HXA)
                  have H2 := Lib.hid (ext_blk H2.out HXA)
                  have H3 := Lib.hid (ext_blk H3.out HXA)
                  have H4 := Lib.hid (ext_blk H4.out HXA)
                  have HE := Lib.hid (HE.out.trans HXA)
                  clear HXA
                  go_upto_region 19 with (fail)
                  change Code.wp _ _ _ _ (wr.alloc (.cells (ints .i64 (List.replicate 17 0)).toArray 98))
                  rw [← hC]
                  clear hC
                  generalize wr.alloc (.cells (ints .i64 (List.replicate 17 0)).toArray 98) = wc at *
                  go_upto_if 59 with (fail)
                  obtain ⟨m, hm⟩ : ∃ m, m = min 16 (b.length - f) := ⟨_, rfl⟩
                  go_cut [12] from 54 to 59 (fun v wq => v = .int .i64 (m : Int) ∧ wq = wc)
                  case first =>
                    by_cases h16 : 16 < b.length - f
                    · have g1 : (16 : Int) < (b.length : Int) - (f : Int) := by omega
                      have hm16 : m = 16 := by omega
                      go_wp2_with fail
                      go_meet
                      exact ⟨by rw [hm16]; rfl, rfl⟩
                    · have g1 : ¬ (16 : Int) < (b.length : Int) - (f : Int) := by omega
                      have hm16 : (m : Int) = (b.length : Int) - (f : Int) := by omega
                      go_wp2_with fail
                      go_meet
                      exact ⟨by rw [hm16], rfl⟩
                  case rest =>
                    obtain ⟨rfl, rfl⟩ := hcut
                    have m0 : (0 : Int) ≤ (m : Int) := Int.natCast_nonneg _
                    have HM : Hid (m = min 16 (b.length - 16 * n)) := Lib.hid (by rw [hm, HF.out])
                    have m1 : m ≤ 16 := by omega
                    have hfm : f + m ≤ b.length := by omega
                    clear hm
                    obtain ⟨g, og, rfl, hgs, hgc⟩ := HC.out (by intro e; have h := congrArg List.length e; rw [List.length_map] at h; simp only [List.length_nil] at h; omega)
                    have HGS := Lib.hid hgs
                    have HGC := Lib.hid hgc
                    clear hgs hgc
                    go_wp2_with fail
                    go_loopw [13] (fun iv wr => ∃ (i : Nat), i ≤ m ∧ iv = .int .i64 (i : Int) ∧ Blk wr C (ints .i64 (cA b n i)) 98 ∧ Blk wr A (kb.map bval) 34 ∧ Blk wr (A + 1) (ints .u8 (List.replicate 16 0)) 58 ∧ Blk wr (A + 1 + 1) (ints .i64 (r)) 98 ∧ Blk wr (A + 1 + 1 + 1) (ints .i64 (Hn)) 98 ∧ Ext w wr) (fun iv _ => m - (intOf iv).toNat)
                    case atStart => exact ⟨0, by omega, rfl, H5.out, H1.out, H2.out, H3.out, H4.out, HE.out⟩
                    case round =>
                      clear H1 H2 H3 H4 H5 HE
                      obtain ⟨i, hi, rfl, hb5, hb1, hb2, hb3, hb4, hbel⟩ := hrel
                      have i0 : (0 : Int) ≤ (i : Int) := Int.natCast_nonneg _
                      have H1 := Lib.hid hb1
                      have H2 := Lib.hid hb2
                      have H3 := Lib.hid hb3
                      have H4 := Lib.hid hb4
                      have H5 := Lib.hid hb5
                      have HE := Lib.hid hbel
                      by_cases hlm : i < m
                      · have i1 : (i : Int) < (m : Int) := by omega
                        have i2 : (i : Int) < 17 := by omega
                        obtain ⟨q, hq⟩ : ∃ q, q = f + i := ⟨_, rfl⟩
                        have hql : q < b.length := by omega
                        have q1 : (f : Int) + (i : Int) = (q : Int) := by omega
                        have q2 : (q : Int) < (b.length : Int) := by omega
                        have q3 : (0 : Int) ≤ (q : Int) := by omega
                        have c1 : wr.cell? ⟨g, og + q, none⟩ = some (.int .u8 ((b.getD q 0).toNat : Int)) := by
                          have h := HGC.out q (by rw [List.length_map]; exact hql)
                          rw [bval_get hql] at h
                          rw [← h]
                          exact HE.out.cell (p := ⟨g, og + q, none⟩) HGS.out
                        have c2 := digit_cell hb5 (i := i) (by rw [cA_length]; omega)
                        have f2 := hb5.free i
                        have HS : Hid (cA b n (i + 1) = (cA b n i).set i ((b.getD q 0).toNat : Int)) := Lib.hid (by rw [hq, HF.out]; rfl)
                        have y0 := (b.getD q 0).toNat_lt
                        clear hb1 hb2 hb3 hb4 hb5 hbel hq
                        generalize (b.getD q 0).toNat = y at *
                        have y1 : (y : Int) ≤ 255 := by omega
                        have y2 : (0 : Int) ≤ (y : Int) := by omega
                        go_wp2_with fail
                        go_roundw
                        case rel => exact ⟨i + 1, by omega, by go_num, by rw [HS.out]; exact H5.out.seti i _, H1.out.far (by have := HCA.out; simp; omega) _, H2.out.far (by have := HCA.out; simp; omega) _, H3.out.far (by have := HCA.out; simp; omega) _, H4.out.far (by have := HCA.out; simp; omega) _, Below.setCell HE.out (by have := HAW.out; have := HCA.out; simp; omega) _⟩
                        case measure => simp [intOf]; omega
                      · have him : i = m := by omega
                        subst him
                        clear hb1 hb2 hb3 hb4 hb5 hbel
                        have i3 : (i : Int) < 17 := by omega
                        have c2 := digit_cell H5.out (i := i) (by rw [cA_length]; omega)
                        have f2 := H5.out.free i
                        obtain ⟨cc, hcc⟩ : ∃ cc, cc = (cA b n i).set i 1 := ⟨_, rfl⟩
                        have HCC : Hid (gV 256 cc = pBlk b n) := Lib.hid (by
                          rw [hcc]
                          have h := gV_blk b n (by have := HF.out; omega)
                          rw [← HM.out] at h
                          exact h)
                        have HCL : Hid (cc.length = 17) := Lib.hid (by rw [hcc, List.length_set, cA_length])
                        have HCD := Lib.hid (show ∀ j, 0 ≤ cc.getD j 0 ∧ cc.getD j 0 ≤ 255 from fun j => by rw [hcc]; exact blk_digit b n i m1 j)
                        have H5n : Hid (Blk (wr.setCell ⟨C, i, none⟩ (.int .i64 1)) C (ints .i64 cc) 98) := Lib.hid (by rw [hcc]; exact H5.out.seti i 1)
                        have H1n := Lib.hid (H1.out.far (a := ⟨C, i, none⟩) (by have := HCA.out; simp; omega) (.int .i64 1))
                        have H2n := Lib.hid (H2.out.far (a := ⟨C, i, none⟩) (by have := HCA.out; simp; omega) (.int .i64 1))
                        have H3n := Lib.hid (H3.out.far (a := ⟨C, i, none⟩) (by have := HCA.out; simp; omega) (.int .i64 1))
                        have H4n : Hid (Blk (wr.setCell ⟨C, i, none⟩ (.int .i64 1)) (A + 1 + 1 + 1) (ints .i64 (sA Hn cc 0)) 98) := Lib.hid (H4.out.far (a := ⟨C, i, none⟩) (by have := HCA.out; simp; omega) (.int .i64 1))
                        have HEn : Hid (Ext w (wr.setCell ⟨C, i, none⟩ (.int .i64 1))) := Lib.hid (Below.setCell HE.out (by have := HAW.out; have := HCA.out; simp; omega) _)
                        go_upto_region 27 with (fail)
                        clear H1 H2 H3 H4 H5 HE c2 f2 hcc
                        generalize wr.setCell ⟨C, i, none⟩ (.int .i64 1) = wd at *
                        go_wp2_with fail
                        go_loopw [14] (fun iv wr => ∃ (j : Nat), j ≤ 17 ∧ iv = .int .i64 (j : Int) ∧ Blk wr C (ints .i64 cc) 98 ∧ Blk wr A (kb.map bval) 34 ∧ Blk wr (A + 1) (ints .u8 (List.replicate 16 0)) 58 ∧ Blk wr (A + 1 + 1) (ints .i64 (r)) 98 ∧ Blk wr (A + 1 + 1 + 1) (ints .i64 (sA Hn cc j)) 98 ∧ Ext w wr) (fun iv _ => 17 - (intOf iv).toNat)
                        case atStart => exact ⟨0, by omega, rfl, H5n.out, H1n.out, H2n.out, H3n.out, H4n.out, HEn.out⟩
                        case round =>
                          clear H1n H2n H3n H4n H5n HEn
                          obtain ⟨j, hj, rfl, hb5, hb1, hb2, hb3, hb4, hbel⟩ := hrel
                          have j0 : (0 : Int) ≤ (j : Int) := Int.natCast_nonneg _
                          have H1 := Lib.hid hb1
                          have H2 := Lib.hid hb2
                          have H3 := Lib.hid hb3
                          have H4 := Lib.hid hb4
                          have H5 := Lib.hid hb5
                          have HE := Lib.hid hbel
                          have HSL : Hid ((sA Hn cc j).length = 17) := Lib.hid (by rw [sA_length]; exact HCAN.out.1)
                          by_cases hlj : j < 17
                          · have j1 : (j : Int) < 17 := by omega
                            have c1 := digit_cell hb4 (i := j) (by rw [HSL.out]; omega)
                            have c2 := digit_cell hb5 (i := j) (by rw [HCL.out]; omega)
                            have f1 := hb4.free j
                            have hd1 := sA_digit Hn cc HCAN.out.1 (can17_255 HCAN.out) HCD.out j j
                            have hd2 := HCD.out j
                            have HS : Hid (sA Hn cc (j + 1) = (sA Hn cc j).set j ((sA Hn cc j).getD j 0 + cc.getD j 0)) := Lib.hid rfl
                            clear hb1 hb2 hb3 hb4 hb5 hbel
                            generalize (sA Hn cc j).getD j 0 = y at *
                            generalize cc.getD j 0 = z at *
                            obtain ⟨y0, y1⟩ := hd1
                            obtain ⟨z0, z1⟩ := hd2
                            go_wp2_with fail
                            go_region
                            go_wp2_with fail
                            go_roundw
                            case rel => exact ⟨j + 1, by omega, by go_num, H5.out.far (by have := HCA.out; simp; omega) _, H1.out.far (by simp; omega) _, H2.out.far (by simp; omega) _, H3.out.far (by simp) _, by rw [HS.out]; exact H4.out.seti j _, Ext.trans (b := wr.setCell ⟨A + 1 + 1 + 1, j, none⟩ (.int .i64 (y + z))) (Below.setCell HE.out (by have := HAW.out; simp; omega) _) (Ext.drew _)⟩
                            case measure => simp [intOf]; omega
                          · have hj17 : j = 17 := by omega
                            subst hj17
                            rw [show ((17 : Nat) : Int) = 17 from rfl]
                            clear hb1 hb2 hb3 hb4 hb5 hbel
                            have HSD := Lib.hid (sA_digit Hn cc HCAN.out.1 (can17_255 HCAN.out) HCD.out 17)
                            have HSV := Lib.hid (sA_full Hn cc HCAN.out.1 HCL.out)
                            generalize sA Hn cc 17 = s at *
                            have HMUL := Lib.hid (mul17 HSL.out HRL.out HSD.out HRD.out)
                            have HTIM := Lib.hid (fun w => times17_any s r w HSL.out HRL.out HSD.out HRD.out)
                            generalize qThree (tList s r 17) = Hm at *
                            have HIs := Lib.hid (d17_size HSL.out)
                            have HIr := Lib.hid (d17_size HRL.out)
                            have HIm := Lib.hid (d17_size HMUL.out.1.1)
                            have HLm : Hid ((ints .i64 Hm).length = (ints .i64 s).length) := Lib.hid (by rw [ints_length, ints_length, HMUL.out.1.1, HSL.out])
                            go_wp2_with (first | (refine wpList_load_blk rfl _ _ rfl (A + 1 + 1 + 1) rfl _ _ _ _ H4.out Try.underlying98 HIs.out ?_) | (refine wpList_load_blk rfl _ _ rfl (A + 1 + 1) rfl _ _ _ _ H3.out Try.underlying98 HIr.out ?_))
                            refine (HTIM.out wr).mono ?_
                            rintro e w5 ⟨rfl, hb⟩
                            have H1 := Lib.hid (ext_blk H1.out hb)
                            have H2 := Lib.hid (ext_blk H2.out hb)
                            have H3 := Lib.hid (ext_blk H3.out hb)
                            have H4 := Lib.hid (ext_blk H4.out hb)
                            have HE := Lib.hid (HE.out.trans hb)
                            clear hb HTIM
                            have f63 : (f : Int) + 16 ≤ 9223372036854775807 := by have := HBL.out; omega
                            go_wp2_with (refine wpList_store_blk rfl _ _ _ rfl (A + 1 + 1 + 1) (ints .i64 Hm) rfl rfl _ _ H4.out HLm.out HIm.out (ints_one _ _) ?_; intro w6 hb6 hg6)
                            go_roundw
                            case rel =>
                              refine ⟨n + 1, f + 16, Hm, by have := HF.out; omega, by have := HF.out; omega, by go_num, HMUL.out.1, ?_, H1.out.grown hg6 (fun e => by have h := Option.some.inj e; omega), H2.out.grown hg6 (fun e => by have h := Option.some.inj e; omega), H3.out.grown hg6 (fun e => by have h := Option.some.inj e; omega), hb6, ext_grown HE.out hg6 (by have := HAW.out; omega)⟩
                              rw [HMUL.out.2, HSV.out, HCC.out, HRV.out]
                              show _ = (pAcc (pR kb) b n + pBlk b n) * pR kb % (pQ : Int)
                              rw [← HACC.out, Int.mul_emod, Int.add_emod, Int.emod_add_emod]
                              rw [Int.mul_emod ((gV 256 Hn % (pQ : Int) + pBlk b n)), Int.emod_add_emod]
                              simp
                            case measure => simp [intOf]; omega
                · have hnn : n = (b.length + 15) / 16 := by have := HF.out; have := HN.out; omega
                  have HNUM : Hid (pAcc (pR kb) b n = pNum kb b) := Lib.hid (by rw [hnn]; rfl)
                  have HC3 := Lib.hid (can17_three HCAN.out)
                  have HWV := Lib.hid (wOut_val (can17_three HCAN.out).1)
                  have HWH := Lib.hid (fun w => whole17_any Hn w HCAN.out)
                  have HI0 := Lib.hid (d17_size HCAN.out.1)
                  clear hnn
                  go_wp2_with (refine wpList_load_blk rfl _ _ rfl (A + 1 + 1 + 1) rfl _ _ _ _ H4.out Try.underlying98 HI0.out ?_)
                  refine (HWH.out wr).mono ?_
                  rintro e w5 ⟨rfl, hb⟩
                  have H1 := Lib.hid (ext_blk H1.out hb)
                  have H2 := Lib.hid (ext_blk H2.out hb)
                  have H4 := Lib.hid (ext_blk H4.out hb)
                  have HE := Lib.hid (HE.out.trans hb)
                  clear hb HWH H3
                  obtain ⟨h, hh⟩ : ∃ h, h = wOut (qThree Hn) := ⟨_, rfl⟩
                  have HHL : Hid (h.length = 17) := Lib.hid (by rw [hh]; exact HWV.out.1)
                  have HHD : Hid (∀ i, i < 17 → 0 ≤ h.getD i 0 ∧ h.getD i 0 < 256) := Lib.hid (by rw [hh]; exact HWV.out.2.1)
                  have HHV : Hid (gV 256 h = pNum kb b) := Lib.hid (by rw [hh, HWV.out.2.2, HC3.out.2, HACC.out, HNUM.out])
                  rw [← hh]
                  clear hh HC3 HWV HNUM HACC
                  have HTAG := Lib.hid (tag_digits HKL.out HHL.out HHD.out HHV.out)
                  have HIh := Lib.hid (d17_size HHL.out)
                  have HLh : Hid ((ints .i64 h).length = (ints .i64 Hn).length) := Lib.hid (by rw [ints_length, ints_length, HHL.out, HCAN.out.1])
                  go_upto_region 33 with (refine wpList_store_blk rfl _ _ _ rfl (A + 1 + 1 + 1) (ints .i64 h) rfl rfl _ _ H4.out HLh.out HIh.out (ints_one _ _) ?_; intro w6 hb6 hg6)
                  have H1 := Lib.hid (H1.out.grown hg6 (fun e => by have h := Option.some.inj e; omega))
                  have H2 := Lib.hid (H2.out.grown hg6 (fun e => by have h := Option.some.inj e; omega))
                  have HE := Lib.hid (ext_grown HE.out hg6 (by have := HAW.out; omega))
                  have H4 := Lib.hid hb6
                  clear hb6 hg6 HLh HIh HI0 HCAN HF HN
                  have HSL : Hid (((kb.drop 16).take 16).length = 16) := Lib.hid (by rw [List.length_take, List.length_drop, HKL.out]; rfl)
                  have HSG : Hid (∀ i, i < 16 → ((kb.drop 16).take 16).getD i 0 = kb.getD (16 + i) 0) := Lib.hid (fun i hi => by
                    simp [List.getD, List.getElem?_take, hi, List.getElem?_drop])
                  have HDD : Hid (∀ i, 0 ≤ h.getD i 0 ∧ h.getD i 0 ≤ 255) := Lib.hid (fun i => by
                    rcases Nat.lt_or_ge i 17 with hi | hi
                    · have := HHD.out i hi
                      omega
                    · rw [getD_out (by rw [HHL.out]; exact hi)]
                      omega)
                  have HUR := Lib.hid (uT_range HDD.out ((kb.drop 16).take 16))
                  generalize (kb.drop 16).take 16 = s at *
                  obtain ⟨o, ho⟩ : ∃ o, o = polyTag kb b := ⟨_, rfl⟩
                  have HO := Lib.hid ho
                  have HOL : Hid (o.length = 16) := Lib.hid (by rw [ho]; exact polyTag_length _ _)
                  have HOD : Hid (∀ i, i < 16 → tD h s i = ((o.getD i 0).toNat : Int)) := Lib.hid (fun i hi => by
                    have e := congrArg (fun l => l.getD i 0) HTAG.out
                    rw [← ho] at e
                    have e1 : (tL h s 16).getD i 0 = tD h s i := by
                      simp only [tL, List.getD_eq_getElem?_getD, List.getElem?_map, List.getElem?_range hi]
                      rfl
                    have hio : i < o.length := by rw [ho, polyTag_length]; exact hi
                    have e2 : (o.map fun b => (b.toNat : Int)).getD i 0 = ((o.getD i 0).toNat : Int) := by simp [List.getD, hio]
                    rw [← e1, ← e2]
                    exact e)
                  clear ho HTAG
                  obtain ⟨T, hT⟩ : ∃ T, T = w6.heap.size := ⟨_, rfl⟩
                  have HTA : Hid (A + 1 + 1 + 1 < T) := Lib.hid (by have := H4.out.lt; omega)
                  have HXA := Ext.alloc w6 (.cells (ints .u8 (List.replicate 16 0)).toArray 58)
                  have H6 : Hid (Blk (w6.alloc (.cells (ints .u8 (List.replicate 16 0)).toArray 58)) T ((fill 16 o 0).map bval) 58) := Lib.hid (by rw [fill_start, hT]; exact Blk.made w6 (ints .u8 (List.replicate 16 0)) 58)
                  have H1n := Lib.hid (ext_blk H1.out HXA)
                  have H2n := Lib.hid (ext_blk H2.out HXA)
                  have H4n := Lib.hid (ext_blk H4.out HXA)
                  have HEn := Lib.hid (HE.out.trans HXA)
                  clear HXA
                  go_upto_region 34 with (fail)
                  change Code.wp _ _ _ _ (w6.alloc (.cells (ints .u8 (List.replicate 16 0)).toArray 58))
                  rw [← hT]
                  clear H1 H2 H4 HE hT
                  generalize w6.alloc (.cells (ints .u8 (List.replicate 16 0)).toArray 58) = w8 at *
                  go_wp2_with fail
                  go_loopw [16, 17] (fun uv iv wr => ∃ (i : Nat), i ≤ 16 ∧ uv = .int .i64 (uT h s i) ∧ iv = .int .i64 (i : Int) ∧ Blk wr A (kb.map bval) 34 ∧ Blk wr (A + 1) (ints .u8 (List.replicate 16 0)) 58 ∧ Blk wr (A + 1 + 1 + 1) (ints .i64 h) 98 ∧ Blk wr T ((fill 16 o i).map bval) 58 ∧ Ext w wr) (fun _ iv _ => 16 - (intOf iv).toNat)
                  case atStart => exact ⟨0, by omega, rfl, rfl, H1n.out, H2n.out, H4n.out, H6.out, HEn.out⟩
                  case round =>
                    clear H1n H2n H4n H6 HEn
                    obtain ⟨i, hi, rfl, rfl, hb1, hb2, hb4, hb6, hbel⟩ := hrel
                    have i0 : (0 : Int) ≤ (i : Int) := Int.natCast_nonneg _
                    have H1 := Lib.hid hb1
                    have H2 := Lib.hid hb2
                    have H4 := Lib.hid hb4
                    have H6 := Lib.hid hb6
                    have HE := Lib.hid hbel
                    by_cases hli : i < 16
                    · have i1 : (i : Int) < 16 := by omega
                      have i2 : (i : Int) < 17 := by omega
                      obtain ⟨q, hq⟩ : ∃ q, q = 16 + i := ⟨_, rfl⟩
                      have q1 : (16 : Int) + (i : Int) = (q : Int) := by omega
                      have q2 : (q : Int) < 32 := by omega
                      have q3 : (0 : Int) ≤ (q : Int) := by omega
                      have c1 := digit_cell hb4 (i := i) (by rw [HHL.out]; omega)
                      have c2 := hb1.cell q
                      rw [bval_get (by rw [HKL.out]; omega)] at c2
                      have hsg := HSG.out i hli
                      rw [← hq] at hsg
                      rw [← hsg] at c2
                      obtain ⟨u6, c6⟩ : ∃ u, wr.cell? ⟨T, i, none⟩ = some u := ⟨_, by rw [hb6.cell, bval_get (by rw [fill_length HOL.out (by omega)]; exact hli)]⟩
                      have f6 := hb6.free i
                      have hu := HUR.out i
                      have hz := HDD.out i
                      have hy := (s.getD i 0).toNat_lt
                      have HU : Hid (uT h s (i + 1) = (uT h s i + h.getD i 0 + ((s.getD i 0).toNat : Int)) / 256) := Lib.hid rfl
                      have HD : Hid ((uT h s i + h.getD i 0 + ((s.getD i 0).toNat : Int)) % 256 = ((o.getD i 0).toNat : Int)) := Lib.hid (HOD.out i hli)
                      clear hb1 hb2 hb4 hb6 hbel hq hsg
                      change wr.cell? ⟨A, q, none⟩ = some (.int .u8 ((s.getD i 0).toNat : Int)) at c2
                      generalize (s.getD i 0).toNat = y at *
                      generalize h.getD i 0 = z at *
                      generalize uT h s i = u at *
                      obtain ⟨u0, u1⟩ := hu
                      obtain ⟨z0, z1⟩ := hz
                      have y1 : (y : Int) ≤ 255 := by omega
                      have y2 : (0 : Int) ≤ (y : Int) := by omega
                      have a1 := and_i64_255 (u + z + (y : Int)) (by omega) (by omega)
                      go_wp2_with fail
                      go_region
                      go_wp2_with fail
                      go_roundw
                      case rel =>
                        refine ⟨i + 1, by omega, by rw [HU.out], by go_num, H1.out.far (by have := HTA.out; simp; omega) _, H2.out.far (by have := HTA.out; simp; omega) _, H4.out.far (by have := HTA.out; simp; omega) _, ?_, Ext.trans (b := wr.setCell ⟨T, i, none⟩ (.int .u8 ((u + z + (y : Int)) % 256))) (Below.setCell HE.out (by have := HAW.out; have := HTA.out; simp; omega) _) (Ext.drew _)⟩
                        rw [← fill_set_val HOL.out hli HD.out]
                        exact H6.out.set i _
                      case measure => simp [intOf]; omega
                    · have hi16 : i = 16 := by omega
                      subst hi16
                      rw [fill_full HOL.out] at hb6
                      have H6 := Lib.hid hb6
                      have HIo : Hid ((Try.prog.info? 58).map (·.size) = some (o.map bval).length) := Lib.hid (tag_size HOL.out)
                      have HLo : Hid ((o.map bval).length = (ints .u8 (List.replicate 16 0)).length) := Lib.hid (by rw [List.length_map, HOL.out, ints_length, List.length_replicate])
                      clear hb1 hb2 hb4 hb6 hbel
                      go_wp2_with (first | (refine wpList_load_blk rfl _ _ rfl T rfl _ _ _ _ H6.out Try.underlying58 HIo.out ?_) | (refine wpList_store_blk rfl _ _ _ rfl (A + 1) (o.map bval) rfl rfl _ _ H2.out HLo.out HIo.out (bval_one _) ?_; intro w9 hb9 hg9))
                      refine bodyPost_ret (result_blk rfl _ (A + 1) _ _ _ _ rfl hb9 Try.underlying58 HIo.out) rfl ?_
                      exact ⟨by rw [HO.out], ext_grown HE.out hg9 (by have := HAW.out; omega)⟩
end Go.Proofs.Ytjnnhkodkbhbbaa

/- What the walks of RefAea2 need and no function of the document. Each theorem names its own conditions. -/
namespace Go.Proofs.Ytjnnhkodkbhbbaa
open Go.RowKit
set_option linter.unusedVariables false
set_option linter.unusedSimpArgs false

theorem byte_one : (Try.prog.info? 5).map (·.size) = some 1 := by kernel_rfl
theorem fill_two (s c : List UInt8) : (s ++ z16 s.length ++ c) ++ z16 (s ++ z16 s.length ++ c).length = s ++ (z16 s.length ++ (c ++ z16 c.length)) := by
  have e : z16 (s ++ z16 s.length ++ c).length = z16 c.length := by
    unfold z16
    simp only [List.length_append, List.length_replicate]
    congr 1
    omega
  rw [e]
  simp [List.append_assoc]
theorem aeaMsg_length (c s : List UInt8) : (aeaMsg c s).length ≤ c.length + s.length + 46 := by
  unfold aeaMsg
  simp only [List.length_append, z16_length, bytesN_length]
  omega

end Go.Proofs.Ytjnnhkodkbhbbaa

/- The walks of the document's own tag of chapter 11, Seal and Open. Each theorem names its own conditions. -/
namespace Go.Proofs.Ytjnnhkodkbhbbaa
open Go.RowKit
set_option linter.unusedVariables false
set_option linter.unusedSimpArgs false

set_option maxRecDepth 100000 in
set_option maxHeartbeats 8000000 in
theorem rTag_any (kb nb c s : List UInt8) (cv sv : Value) (w : World) (hk : kb.length = 32) (hn : nb.length = 12) (hc : Row1 w cv (c.map bval)) (hs : Row1 w sv (s.map bval)) (hcl : c.length ≤ 1000000000) (hsl : s.length ≤ 1000000000) :
    Calls Try.prog 34 #[.agg (kb.map bval).toArray, .agg (nb.map bval).toArray, cv, sv] w fun e w' => e = .returned (.agg ((aeaTag kb nb c s).map bval).toArray) ∧ Below w.heap.size w w' := by
  obtain ⟨i0, hi, hz0, hz1, hz2⟩ := info_parts Try.info5
  have HI0 := Lib.hid hi
  have HZ0 := Lib.hid hz0
  have HZ1 := Lib.hid hz1
  have HZ2 := Lib.hid hz2
  have HC0 := Lib.hid hc
  have HS0 := Lib.hid hs
  obtain ⟨ac, capc, hcv, c1, c2, _⟩ := id hc
  obtain ⟨ad, caps, hsv, s1, s2, _⟩ := id hs
  rw [List.length_map] at hcv c1 hsv s1
  subst hcv hsv
  unfold maxLen at c2 s2
  have HCL := Lib.hid hcl
  have HSL := Lib.hid hsl
  have HB := Lib.hid (boxes3 w (kb.map bval) (nb.map bval) (ints .u8 (List.replicate 16 0)) 34 44 58)
  have HIK : Hid ((Try.prog.info? 34).map (·.size) = some (kb.map bval).length) := Lib.hid (num_size hk)
  have HIN : Hid ((Try.prog.info? 44).map (·.size) = some (nb.map bval).length) := Lib.hid (nonce_size hn)
  have HKL := Lib.hid hk
  have HNL := Lib.hid hn
  clear hi hz0 hz1 hz2 hc hs hk hn
  go_enter Try.func34, Try.ntmps34
  go_upto_region 1 with (fail)
  obtain ⟨H1, H2, H3, HE⟩ := HB.out
  change Code.wp _ _ _ _ (((w.alloc (.cells (kb.map bval).toArray 34)).alloc (.cells (nb.map bval).toArray 44)).alloc (.cells (ints .u8 (List.replicate 16 0)).toArray 58))
  generalize ((w.alloc (.cells (kb.map bval).toArray 34)).alloc (.cells (nb.map bval).toArray 44)).alloc (.cells (ints .u8 (List.replicate 16 0)).toArray 58) = wa at *
  obtain ⟨A, hA⟩ : ∃ A, A = w.heap.size := ⟨_, rfl⟩
  have HAW : Hid (w.heap.size ≤ A) := Lib.hid (by omega)
  rw [← hA] at H1 H2 H3 ⊢
  have H1 := Lib.hid H1
  have H2 := Lib.hid H2
  have H3 := Lib.hid H3
  have HE : Hid (Ext w wa) := Lib.hid HE
  clear hA HB
  go_wp2_with (first | (refine wpList_load_blk rfl _ _ rfl A rfl _ _ _ _ H1.out Try.underlying34 HIK.out ?_) | (refine wpList_load_blk rfl _ _ rfl (A + 1) rfl _ _ _ _ H2.out Try.underlying44 HIN.out ?_))
  refine (rBlock_any kb nb 0 wa HKL.out HNL.out (by decide) (by decide)).mono ?_
  rintro e w1 ⟨rfl, hb⟩
  have H3 := Lib.hid (ext_blk H3.out hb)
  have HE := Lib.hid (HE.out.trans hb)
  clear hb H1 H2
  have HOK : Hid (oneKey kb nb = (chaBlock kb (BitVec.ofInt 32 0) nb).take 32) := Lib.hid rfl
  have HBL := Lib.hid (chaBlock_length kb (BitVec.ofInt 32 0) nb)
  generalize chaBlock kb (BitVec.ofInt 32 0) nb = k at *
  have HZ := Lib.hid (Blk.made w1 (ints .u8 (List.replicate 64 0)) 68)
  have HEA := Lib.hid (Ext.alloc w1 (.cells (ints .u8 (List.replicate 64 0)).toArray 68))
  have HIS : Hid ((Try.prog.info? 68).map (·.size) = some (k.map bval).length) := Lib.hid (sig_size HBL.out)
  have HLo : Hid ((k.map bval).length = (ints .u8 (List.replicate 64 0)).length) := Lib.hid (by rw [List.length_map, HBL.out, ints_length, List.length_replicate])
  go_upto_region 2 with (refine wpList_store_blk rfl _ _ _ rfl w1.heap.size (k.map bval) rfl rfl _ _ HZ.out HLo.out HIS.out (bval_one _) ?_; intro w2 hb2 hg2)
  have HE4 := Lib.hid (ext_grown HEA.out hg2 (Nat.le_refl _))
  have H3 := Lib.hid (ext_blk H3.out HE4.out)
  have HE := Lib.hid (HE.out.trans HE4.out)
  obtain ⟨S, hS⟩ : ∃ S, S = w1.heap.size := ⟨_, rfl⟩
  rw [← hS] at hb2 ⊢
  have H4 := Lib.hid hb2
  clear hb2 hg2 HZ HEA HE4 HLo hS
  have HXA := Ext.alloc w2 (.cells (ints .u8 (List.replicate 32 0)).toArray 34)
  obtain ⟨O, hO⟩ : ∃ O, O = w2.heap.size := ⟨_, rfl⟩
  have HOA : Hid (A + 1 + 1 < O ∧ w.heap.size ≤ O) := Lib.hid (by have := H3.out.lt; have := HE.out.size; omega)
  have H5 : Hid (Blk (w2.alloc (.cells (ints .u8 (List.replicate 32 0)).toArray 34)) O ((List.replicate 32 (0 : UInt8)).map bval) 34) := Lib.hid (by rw [hO]; exact Blk.made w2 (ints .u8 (List.replicate 32 0)) 34)
  have H3 := Lib.hid (ext_blk H3.out HXA)
  have H4 := Lib.hid (ext_blk H4.out HXA)
  have HE := Lib.hid (HE.out.trans HXA)
  clear HXA
  go_upto_region 3 with (fail)
  change Code.wp _ _ _ _ (w2.alloc (.cells (ints .u8 (List.replicate 32 0)).toArray 34))
  rw [← hO]
  clear hO
  generalize w2.alloc (.cells (ints .u8 (List.replicate 32 0)).toArray 34) = w3 at *
  refine wp_region_from 2 1 2 rfl (by kernel_rfl) (by kernel_rfl) (fun d v c a w h => by cases d <;> exact h) (by kernel_rfl) ?_
  refine det_val (.slice (some ⟨O, 0, none⟩) 32 32) (by rfl) (fun w hw => by go_simp) ?_
  simp only [Act.put, List.setIfInBounds_toArray, List.set_cons_zero, List.set_cons_succ]
  refine det_val (.slice (some ⟨S, 0, none⟩) 32 64) (by rfl) (fun w hw => by go_simp) ?_
  simp only [Act.put, List.setIfInBounds_toArray, List.set_cons_zero, List.set_cons_succ]
  refine det_nil (end_store (k := 2) rfl (by kernel_rfl) (by kernel_rfl) (by kernel_rfl) rfl (fun w4 hw4 => ?_))
  have H3 := Lib.hid (ext_blk H3.out hw4)
  have H4 := Lib.hid (ext_blk H4.out hw4)
  have H5 := Lib.hid (ext_blk H5.out hw4)
  have HE := Lib.hid (HE.out.trans hw4)
  clear hw4
  have HTL : Hid ((k.take 32).length = 32) := Lib.hid (by rw [List.length_take, HBL.out]; rfl)
  refine wp_copy_blk _ _ 22 22 rfl 5 Try.underlying22 byte_one _ _ _ _ _ _ rfl rfl O 0 _ _ H5.out ((k.take 32).map bval) (by rw [List.length_map, HTL.out]; rfl) (fun _ => ⟨rfl, ⟨S, 0, none⟩, rfl, fun j v hj => ?_⟩) (by rw [List.length_map, HTL.out]; simp) (bval_one _) ?_
  · have hj2 : j < 32 := by
      rcases Nat.lt_or_ge j 32 with h | h
      · exact h
      · rw [List.getElem?_eq_none (by rw [List.length_map, HTL.out]; omega)] at hj; cases hj
    rw [WideShapes.add_plain, Nat.zero_add, H4.out.cell, ← hj, List.getElem?_map, List.getElem?_map, List.getElem?_take, if_pos hj2]
  intro w5 hb5 hg5
  have e32 : splice ((List.replicate 32 (0 : UInt8)).map bval) 0 ((k.take 32).map bval) = (k.take 32).map bval := by
    rw [splice_bytes, HTL.out]
    simp
  rw [e32] at hb5
  have H3 := Lib.hid (H3.out.grown hg5 (by have := HOA.out; simp; omega))
  have HE := Lib.hid (ext_grown HE.out hg5 HOA.out.2)
  have H5 := Lib.hid hb5
  clear hb5 hg5 H4 e32
  generalize goInt ((k.take 32).map bval).length = g1
  simp only [Act.put, List.getElem_toArray, List.getElem_cons_zero, List.getElem_cons_succ, List.setIfInBounds_toArray, List.set_cons_zero, List.set_cons_succ]
  rw [← HOK.out] at HTL H5
  have HIO : Hid ((Try.prog.info? 34).map (·.size) = some ((oneKey kb nb).map bval).length) := Lib.hid (num_size HTL.out)
  have HTG : Hid (aeaTag kb nb c s = polyTag (oneKey kb nb) (aeaMsg c s)) := Lib.hid rfl
  generalize oneKey kb nb = ok at *
  -- what is tagged
  obtain ⟨base, hbase⟩ : ∃ base, base = w5.heap.size := ⟨_, rfl⟩
  have HBS : Hid (base ≤ w5.heap.size) := Lib.hid (by omega)
  have HBW : Hid (w.heap.size ≤ base) := Lib.hid (by rw [hbase]; exact HE.out.size)
  have HBO : Hid (A + 1 + 1 < base ∧ O < base) := Lib.hid (by have := H3.out.lt; have := H5.out.lt; omega)
  have HNIL : Hid (w5.ownsRow base 5 1 (.slice none 0 0) 0 []) := Lib.hid (World.ownsRow_nil _ _ _ _)
  have HSR := Lib.hid (HS0.out.below HE.out)
  have HLM : Hid ((s.map bval).length = s.length) := Lib.hid (List.length_map _)
  have HLC : Hid ((c.map bval).length = c.length) := Lib.hid (List.length_map _)
  clear hbase
  go_wp2_with (at_builtin; refine wpList_append_row rfl _ _ 22 rfl base 5 i0 (.int .u8 0) 1 Try.underlying22 HI0.out HZ0.out HZ1.out HZ2.out rfl _ 0 [] rfl HNIL.out rfl HSR.out (bval_one _) (by rw [HLM.out]; have := HSL.out; unfold maxLen; omega) (by rw [HLM.out]; have := HSL.out; omega) HBS.out ?_; intro v6 w6 hown6 hgrow6)
  have HB6 := Lib.hid (below_own (Below.refl base w5) HNIL.out hgrow6 HBS.out)
  have HO6 : Hid (w6.ownsRow base 5 1 v6 s.length (s.map bval)) := Lib.hid (own_eq hown6 (by rw [HLM.out]; omega) rfl)
  clear hown6 hgrow6 HNIL HSR
  have HS6 : Hid (base ≤ w6.heap.size) := Lib.hid (Nat.le_trans HBS.out HB6.out.size)
  go_wp2_with fail
  refine (rFilled_any v6 s base w6 HO6.out HS6.out (by have := HSL.out; omega)).mono ?_
  rintro e w7 ⟨x7, rfl, ho7, hb7⟩
  have HB7 := Lib.hid (HB6.out.trans hb7)
  obtain ⟨m7, hm7⟩ : ∃ m7, m7 = s ++ z16 s.length := ⟨_, rfl⟩
  have HL7 : Hid (m7.length ≤ s.length + 16) := Lib.hid (by rw [hm7, List.length_append, z16_length]; omega)
  rw [← hm7] at ho7
  have HM7 := Lib.hid hm7
  have HO7 := Lib.hid ho7
  clear ho7 hb7 hm7 HO6 HB6 HS6
  have HE7 : Hid (Ext w w7) := Lib.hid (Below.trans HE.out (Below.mono HB7.out HBW.out))
  have HCR := Lib.hid (HC0.out.below HE7.out)
  have HS7 : Hid (base ≤ w7.heap.size) := Lib.hid (Nat.le_trans HBS.out HB7.out.size)
  have HF7 : Hid (m7.length + (c.map bval).length ≤ 3000000000) := Lib.hid (by rw [HLC.out]; have := HL7.out; have := HCL.out; have := HSL.out; omega)
  go_wp2_with (at_builtin; refine wpList_append_row rfl _ _ 22 rfl base 5 i0 (.int .u8 0) 1 Try.underlying22 HI0.out HZ0.out HZ1.out HZ2.out rfl _ _ _ rfl HO7.out rfl HCR.out (bval_one _) (by have := HF7.out; unfold maxLen; omega) (by have := HF7.out; omega) HS7.out ?_; intro v8 w8 hown8 hgrow8)
  have HB8 := Lib.hid (below_own HB7.out HO7.out hgrow8 HS7.out)
  have HO8 : Hid (w8.ownsRow base 5 1 v8 (m7 ++ c).length ((m7 ++ c).map bval)) := Lib.hid (own_eq hown8 (by rw [HLC.out, List.length_append]) (by rw [List.map_append]))
  clear hown8 hgrow8 HO7 HB7 HS7 HCR HE7 HF7
  have HS8 : Hid (base ≤ w8.heap.size) := Lib.hid (Nat.le_trans HBS.out HB8.out.size)
  go_wp2_with fail
  refine (rFilled_any v8 (m7 ++ c) base w8 HO8.out HS8.out (by rw [List.length_append]; have := HL7.out; have := HCL.out; have := HSL.out; omega)).mono ?_
  rintro e w9 ⟨x9, rfl, ho9, hb9⟩
  have HB9 := Lib.hid (HB8.out.trans hb9)
  have e9 := fill_two s c
  rw [← HM7.out] at e9
  rw [e9] at ho9
  have HMG : Hid (aeaMsg c s = (s ++ (z16 s.length ++ (c ++ z16 c.length))) ++ bytesN 8 s.length ++ bytesN 8 c.length) := Lib.hid (by unfold aeaMsg; simp [List.append_assoc])
  have HL9 : Hid ((s ++ (z16 s.length ++ (c ++ z16 c.length))).length ≤ 2000000100) := Lib.hid (by simp only [List.length_append, z16_length]; have := HCL.out; have := HSL.out; omega)
  obtain ⟨m9, hm9⟩ : ∃ m9, m9 = s ++ (z16 s.length ++ (c ++ z16 c.length)) := ⟨_, rfl⟩
  rw [← hm9] at ho9 HMG HL9
  have HO9 := Lib.hid ho9
  clear ho9 hb9 e9 hm9 HO8 HB8 HS8 HM7 HL7
  have HS9 : Hid (base ≤ w9.heap.size) := Lib.hid (Nat.le_trans HBS.out HB9.out.size)
  go_wp2_with fail
  refine (rLength_any s.length w9 (by have := HSL.out; omega)).mono ?_
  rintro e w10 ⟨x10, rfl, ho10, hb10⟩
  have HB10 := Lib.hid (HB9.out.trans (Below.mono hb10 HS9.out))
  have HO10 := Lib.hid (own_below HO9.out hb10)
  have HR10 := Lib.hid (Row1.of_own ho10)
  have HS10 : Hid (base ≤ w10.heap.size) := Lib.hid (Nat.le_trans HBS.out HB10.out.size)
  have HF10 : Hid (m9.length + ((bytesN 8 s.length).map bval).length ≤ 2000000200) := Lib.hid (by rw [List.length_map, bytesN_length]; have := HL9.out; omega)
  clear ho10 hb10 HO9 HB9 HS9
  go_wp2_with (at_builtin; refine wpList_append_row rfl _ _ 22 rfl base 5 i0 (.int .u8 0) 1 Try.underlying22 HI0.out HZ0.out HZ1.out HZ2.out rfl _ _ _ rfl HO10.out rfl HR10.out (bval_one _) (by have := HF10.out; unfold maxLen; omega) (by have := HF10.out; omega) HS10.out ?_; intro v11 w11 hown11 hgrow11)
  have HB11 := Lib.hid (below_own HB10.out HO10.out hgrow11 HS10.out)
  have HO11 : Hid (w11.ownsRow base 5 1 v11 (m9 ++ bytesN 8 s.length).length ((m9 ++ bytesN 8 s.length).map bval)) := Lib.hid (own_eq hown11 (by rw [List.length_map, List.length_append]) (by rw [List.map_append]))
  clear hown11 hgrow11 HO10 HB10 HS10 HR10 HF10
  have HS11 : Hid (base ≤ w11.heap.size) := Lib.hid (Nat.le_trans HBS.out HB11.out.size)
  refine (rLength_any c.length w11 (by have := HCL.out; omega)).mono ?_
  rintro e w12 ⟨x12, rfl, ho12, hb12⟩
  have HB12 := Lib.hid (HB11.out.trans (Below.mono hb12 HS11.out))
  have HO12 := Lib.hid (own_below HO11.out hb12)
  have HR12 := Lib.hid (Row1.of_own ho12)
  have HS12 : Hid (base ≤ w12.heap.size) := Lib.hid (Nat.le_trans HBS.out HB12.out.size)
  have HF12 : Hid ((m9 ++ bytesN 8 s.length).length + ((bytesN 8 c.length).map bval).length ≤ 2000000300) := Lib.hid (by rw [List.length_map, bytesN_length, List.length_append, bytesN_length]; have := HL9.out; omega)
  clear ho12 hb12 HO11 HB11 HS11
  go_upto_region 7 with (at_builtin; refine wpList_append_row rfl _ _ 22 rfl base 5 i0 (.int .u8 0) 1 Try.underlying22 HI0.out HZ0.out HZ1.out HZ2.out rfl _ _ _ rfl HO12.out rfl HR12.out (bval_one _) (by have := HF12.out; unfold maxLen; omega) (by have := HF12.out; omega) HS12.out ?_; intro v13 w13 hown13 hgrow13)
  have HB13 := Lib.hid (below_own HB12.out HO12.out hgrow13 HS12.out)
  have HO13 : Hid (w13.ownsRow base 5 1 v13 (aeaMsg c s).length ((aeaMsg c s).map bval)) := Lib.hid (own_eq hown13 (by rw [HMG.out, List.length_map]; simp only [List.length_append]) (by rw [HMG.out]; simp only [List.map_append]))
  clear hown13 hgrow13 HO12 HB12 HS12 HR12 HF12
  have H3 := Lib.hid (H3.out.same (HB13.out.block _ HBO.out.1))
  have H5 := Lib.hid (H5.out.same (HB13.out.block _ HBO.out.2))
  have HE : Hid (Ext w w13) := Lib.hid (Below.trans HE.out (Below.mono HB13.out HBW.out))
  have HRM := Lib.hid (Row1.of_own HO13.out)
  have HGL : Hid ((aeaMsg c s).length ≤ 1099511627776) := Lib.hid (by have := aeaMsg_length c s; have := HCL.out; have := HSL.out; omega)
  generalize aeaMsg c s = m at *
  clear HMG HO13 HB13 HL9
  have HIT : Hid ((Try.prog.info? 58).map (·.size) = some ((polyTag ok m).map bval).length) := Lib.hid (tag_size (polyTag_length _ _))
  have HLt : Hid (((polyTag ok m).map bval).length = (ints .u8 (List.replicate 16 0)).length) := Lib.hid (by rw [List.length_map, polyTag_length, ints_length, List.length_replicate])
  go_wp2_with (refine wpList_load_blk rfl _ _ rfl O rfl _ _ _ _ H5.out Try.underlying34 HIO.out ?_)
  refine (rPoly_any ok m _ w13 HTL.out HRM.out HGL.out).mono ?_
  rintro e w14 ⟨rfl, hb⟩
  have H3 := Lib.hid (ext_blk H3.out hb)
  have HE := Lib.hid (HE.out.trans hb)
  clear hb
  go_wp2_with (refine wpList_store_blk rfl _ _ _ rfl (A + 1 + 1) ((polyTag ok m).map bval) rfl rfl _ _ H3.out HLt.out HIT.out (bval_one _) ?_; intro w15 hb15 hg15)
  refine bodyPost_ret (result_blk rfl _ (A + 1 + 1) _ _ _ _ rfl hb15 Try.underlying58 HIT.out) rfl ?_
  exact ⟨by rw [HTG.out], ext_grown HE.out hg15 (by have := HAW.out; omega)⟩
end Go.Proofs.Ytjnnhkodkbhbbaa
