/- Arrays of one-cell elements in memory: a block known whole is loaded and stored whole, and answered as a call's result. Nothing here speaks of a program. Each theorem names its own conditions. -/
import Derived.Test.YtjnnhkodkbhbbaaRowKit
import Derived.Deep.MidRow
namespace Go.Proofs.Ytjnnhkodkbhbbaa
open Go.RowKit
set_option linter.unusedVariables false

section
variable {P : Program} {w w' : World}

/-- vs laid over cs from o on. -/
def laid : List Value → Nat → List Value → List Value
  | cs, _, [] => cs
  | cs, o, v :: r => laid (cs.set o v) (o + 1) r
theorem laid_length : ∀ (vs cs : List Value) (o : Nat), (laid cs o vs).length = cs.length
  | [], _, _ => rfl
  | v :: r, cs, o => by rw [laid, laid_length r]; simp
theorem laid_get : ∀ (vs cs : List Value) (o : Nat), o + vs.length ≤ cs.length → ∀ i, (laid cs o vs)[i]? = if o ≤ i ∧ i < o + vs.length then vs[i - o]? else cs[i]?
  | [], cs, o, h, i => by simp [laid]; omega
  | v :: r, cs, o, h, i => by
    rw [List.length_cons] at h
    rw [laid, laid_get r _ _ (by simp; omega)]
    by_cases h1 : i = o
    · subst h1
      rw [if_neg (by omega), if_pos (by simp), List.getElem?_set_self (by omega)]
      simp
    · by_cases h2 : o + 1 ≤ i ∧ i < o + 1 + r.length
      · rw [if_pos h2, if_pos (by rw [List.length_cons]; omega), show i - o = (i - (o + 1)) + 1 from by omega]
        simp
      · rw [if_neg h2, if_neg (by rw [List.length_cons]; omega), List.getElem?_set_ne (by omega)]
theorem laid_all (cs vs : List Value) (h : vs.length = cs.length) : laid cs 0 vs = vs := by
  apply List.ext_getElem?
  intro i
  rw [laid_get _ _ _ (by omega)]
  by_cases hi : i < vs.length
  · rw [if_pos (by omega)]
    simp
  · rw [if_neg (by omega), List.getElem?_eq_none (by omega), List.getElem?_eq_none (by omega)]

theorem Blk.setCells {c : Nat} {t : TypeId} : ∀ (vs : List Value) (cs : List Value) (o : Nat) (w : World), Blk w c cs t → Blk (w.setCells c o vs) c (laid cs o vs) t
  | [], _, _, _, h => h
  | v :: r, cs, o, w, h => Blk.setCells r (cs.set o v) (o + 1) _ (h.set o v)
theorem grownBy_setCells {c : Nat} : ∀ (vs : List Value) (o : Nat) (a b : World), a.grownBy b (some c) → a.grownBy (b.setCells c o vs) (some c)
  | [], _, _, _, h => h
  | v :: r, o, a, b, h => grownBy_setCells r (o + 1) a _ (grownBy_set h o v)

theorem Blk.there {c : Nat} {cs : List Value} {t : TypeId} (h : Blk w c cs t) (n : Nat) (hn : n ≤ cs.length) : w.there c 0 n := fun j hj => by
  rw [Nat.zero_add]
  refine ⟨?_, h.free j⟩
  rw [h.cell j, List.getElem?_eq_getElem (by omega)]
  rfl
theorem Blk.range {c : Nat} {cs : List Value} {t : TypeId} (h : Blk w c cs t) : w.rangeAt c 0 cs := fun j v hv => by
  rw [Nat.zero_add, h.cell j, hv]

/-- A whole array is loaded. -/
theorem wpList_load_blk {ops : Array Oper} {rest : List Oper} {o : Oper} {a : Act} {Q : Exit → Act → World → Prop} (hgd : o.guard = none) (ty : TypeId) (x : Operand) (ho : o.op = .load ty x)
    (c : Nat) (hx : a.eval x = .pointer (some ⟨c, 0, none⟩)) (t : TypeId) (cs : List Value) (n : Nat) (e : TypeId) (hb : Blk w c cs t)
    (hu : P.underlying ty = some (.array n e)) (hi : (P.info? ty).map (·.size) = some cs.length)
    (h : wpList P ops Q rest (a.put o.dst (.agg cs.toArray)) w) : wpList P ops Q (o :: rest) a w :=
  wpList_load_mid hgd ty x ho c 0 hx cs _ hb.range hu rfl hi h

/-- A whole array is stored. -/
theorem wpList_store_blk {ops : Array Oper} {rest : List Oper} {o : Oper} {a : Act} {Q : Exit → Act → World → Prop} (hgd : o.guard = none) (ty : TypeId) (x y : Operand) (ho : o.op = .store ty x y)
    (c : Nat) (vs : List Value) (hx : a.eval x = .pointer (some ⟨c, 0, none⟩)) (hy : a.eval y = .agg vs.toArray)
    (t : TypeId) (cs : List Value) (hb : Blk w c cs t) (hl : vs.length = cs.length) (hi : (P.info? ty).map (·.size) = some vs.length) (h1 : ∀ v ∈ vs, v.oneCell' = true)
    (h : ∀ w', Blk w' c vs t → w.grownBy w' (some c) → wpList P ops Q rest (a.put o.dst undef) w') : wpList P ops Q (o :: rest) a w :=
  wpList_store_mid hgd ty x y ho c 0 vs.toArray hx hy (by simpa using hb.there vs.length (by omega)) (by simpa using hi) (all_oneCell_toArray h1)
    (h _ (by simpa [laid_all cs vs hl] using Blk.setCells vs cs 0 w hb) (grownBy_setCells _ 0 w w (grownBy_refl w _)))

/-- The same, as an operation. -/
theorem wp_store_blk {o : Oper} {a : Act} {K : Act → World → Prop} {Q : Exit → Act → World → Prop} (ty : TypeId) (x y : Operand) (ho : o.op = .store ty x y)
    (c : Nat) (vs : List Value) (hx : a.eval x = .pointer (some ⟨c, 0, none⟩)) (hy : a.eval y = .agg vs.toArray)
    (t : TypeId) (cs : List Value) (hb : Blk w c cs t) (hl : vs.length = cs.length) (hi : (P.info? ty).map (·.size) = some vs.length) (h1 : ∀ v ∈ vs, v.oneCell' = true)
    (h : ∀ w', Blk w' c vs t → w.grownBy w' (some c) → K (a.put o.dst undef) w') : o.wp P a w K Q :=
  wp_store_mid ty x y ho c 0 vs.toArray hx hy (by simpa using hb.there vs.length (by omega)) (by simpa using hi) (all_oneCell_toArray h1)
    (h _ (by simpa [laid_all cs vs hl] using Blk.setCells vs cs 0 w hb) (grownBy_setCells _ 0 w w (grownBy_refl w _)))

theorem Blk.below {c : Nat} {cs : List Value} {t : TypeId} (h : Blk w c cs t) (hb : Below w.heap.size w w') : Blk w' c cs t := h.same (hb.block _ h.lt)

/-- The result that lies in a cell: the whole array. -/
theorem result_blk {fn : Func} {p : Tmp} {ty : TypeId} (h : fn.results = #[.cell p ty]) (tmps : Array Value) (c : Nat) (t : TypeId) (cs : List Value) (n : Nat) (e : TypeId)
    (hp : tmps.getD p undef = .pointer (some ⟨c, 0, none⟩)) (hb : Blk w c cs t) (hu : P.underlying ty = some (.array n e)) (hi : (P.info? ty).map (·.size) = some cs.length) :
    (results fn tmps).run P w = .ok (.agg cs.toArray) w :=
  results_cell_row h tmps w c t cs.toArray (0, 0) _ hp hb hu rfl (by simpa using hi)

/-- A block, where another one is written. -/
theorem Blk.far {c : Nat} {cs : List Value} {t : TypeId} {a : Addr} (h : Blk w c cs t) (ha : a.block ≠ c) (v : Value) : Blk (w.setCell a v) c cs t :=
  h.same (heap_setCell_other w a c v (fun e => ha e.symm))
theorem Blk.alloc {c : Nat} {cs : List Value} {t : TypeId} (h : Blk w c cs t) (o : Obj) : Blk (w.alloc o) c cs t := h.same (heap_alloc_old w o h.lt)

/-- Blocks that a call lays at its head. -/
theorem boxes2 (w : World) (a b : List Value) (s t : TypeId) : Blk ((w.alloc (.cells a.toArray s)).alloc (.cells b.toArray t)) w.heap.size a s ∧ Blk ((w.alloc (.cells a.toArray s)).alloc (.cells b.toArray t)) (w.heap.size + 1) b t ∧
    Below w.heap.size w ((w.alloc (.cells a.toArray s)).alloc (.cells b.toArray t)) := by
  refine ⟨(Blk.made w a s).alloc _, ?_, ((Below.refl _ _).alloc (Nat.le_refl _) _).alloc (by simp) _⟩
  have := Blk.made (w.alloc (.cells a.toArray s)) b t
  simpa using this
theorem boxes3 (w : World) (a b c : List Value) (s t u : TypeId) : Blk (((w.alloc (.cells a.toArray s)).alloc (.cells b.toArray t)).alloc (.cells c.toArray u)) w.heap.size a s ∧ Blk (((w.alloc (.cells a.toArray s)).alloc (.cells b.toArray t)).alloc (.cells c.toArray u)) (w.heap.size + 1) b t ∧
    Blk (((w.alloc (.cells a.toArray s)).alloc (.cells b.toArray t)).alloc (.cells c.toArray u)) (w.heap.size + 1 + 1) c u ∧ Below w.heap.size w (((w.alloc (.cells a.toArray s)).alloc (.cells b.toArray t)).alloc (.cells c.toArray u)) := by
  obtain ⟨h1, h2, h3⟩ := boxes2 w a b s t
  refine ⟨h1.alloc _, h2.alloc _, ?_, h3.alloc (by simp; omega) _⟩
  have := Blk.made ((w.alloc (.cells a.toArray s)).alloc (.cells b.toArray t)) c u
  simpa using this
theorem boxes4 (w : World) (a b c d : List Value) (s t u v : TypeId) : Blk ((((w.alloc (.cells a.toArray s)).alloc (.cells b.toArray t)).alloc (.cells c.toArray u)).alloc (.cells d.toArray v)) w.heap.size a s ∧ Blk ((((w.alloc (.cells a.toArray s)).alloc (.cells b.toArray t)).alloc (.cells c.toArray u)).alloc (.cells d.toArray v)) (w.heap.size + 1) b t ∧
    Blk ((((w.alloc (.cells a.toArray s)).alloc (.cells b.toArray t)).alloc (.cells c.toArray u)).alloc (.cells d.toArray v)) (w.heap.size + 1 + 1) c u ∧ Blk ((((w.alloc (.cells a.toArray s)).alloc (.cells b.toArray t)).alloc (.cells c.toArray u)).alloc (.cells d.toArray v)) (w.heap.size + 1 + 1 + 1) d v ∧ Below w.heap.size w ((((w.alloc (.cells a.toArray s)).alloc (.cells b.toArray t)).alloc (.cells c.toArray u)).alloc (.cells d.toArray v)) := by
  obtain ⟨h1, h2, h3, h4⟩ := boxes3 w a b c s t u
  refine ⟨h1.alloc _, h2.alloc _, h3.alloc _, ?_, h4.alloc (by simp; omega) _⟩
  have := Blk.made (((w.alloc (.cells a.toArray s)).alloc (.cells b.toArray t)).alloc (.cells c.toArray u)) d v
  simpa using this

/-- The cells of numbers. -/
def ints (k : IntKind) (zs : List Int) : List Value := zs.map (.int k)
theorem ints_one (k : IntKind) (zs : List Int) : ∀ v ∈ ints k zs, v.oneCell' = true := by
  intro u hu
  obtain ⟨z, _, rfl⟩ := List.mem_map.1 hu
  rfl
theorem ints_set (k : IntKind) (zs : List Int) (i : Nat) (z : Int) : (ints k zs).set i (.int k z) = ints k (zs.set i z) := by
  unfold ints
  rw [List.map_set]
theorem ints_get {k : IntKind} {zs : List Int} {i : Nat} (h : i < zs.length) : (ints k zs)[i]? = some (.int k (zs.getD i 0)) := by
  simp [ints, List.getD, h]
theorem ints_length (k : IntKind) (zs : List Int) : (ints k zs).length = zs.length := by simp [ints]
end

end Go.Proofs.Ytjnnhkodkbhbbaa
