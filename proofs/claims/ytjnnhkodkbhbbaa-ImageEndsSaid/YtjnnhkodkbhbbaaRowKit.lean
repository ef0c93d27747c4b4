/- Rows of one-cell values in memory: a slice that reads as a list, carried into later worlds, cut, appended onto a row of the call's own, made a string. Each theorem names its own conditions; nothing here speaks of a program. -/
import Derived.WalkKit
import Derived.WalkSpells
import Derived.WalkLawsBesides
import Derived.Lib.Hide
import Derived.Deep.QuietTactic
import Derived.BigQuiet
import Derived.Deep.RegionHeld3
import Derived.Deep.AppendLies
import Derived.OneCell
namespace Go.Proofs.Ytjnnhkodkbhbbaa
open Go.RowKit

/-- A slice that reads as a list of one-cell values. -/
def Row1 (w : World) (v : Value) (vs : List Value) : Prop :=
  ∃ a cap, v = .slice a vs.length cap ∧ vs.length ≤ cap ∧ cap ≤ maxLen ∧ (a = none → cap = 0) ∧ (vs ≠ [] → ∃ b off, a = some ⟨b, off, none⟩ ∧ b < w.heap.size ∧ ∀ i, i < vs.length → w.cell? ⟨b, off + i, none⟩ = vs[i]?)

section
variable {P : Program} {w w' : World} {v : Value} {vs : List Value}

theorem Row1.nil (w : World) : Row1 w (.slice none 0 0) [] := ⟨none, 0, rfl, Nat.le_refl _, Nat.zero_le _, fun _ => rfl, fun h => absurd rfl h⟩

/-- In a world in which the cells of the old blocks are as they were. -/
theorem Row1.same (h : Row1 w v vs) (hs : w.heap.size ≤ w'.heap.size) (hc : ∀ p : Addr, v.ownBlock = some p.block → p.block < w.heap.size → w'.cell? p = w.cell? p) : Row1 w' v vs := by
  obtain ⟨a, cap, rfl, h1, h2, h3, h4⟩ := h
  refine ⟨a, cap, rfl, h1, h2, h3, fun hne => ?_⟩
  obtain ⟨b, off, rfl, hb, hcell⟩ := h4 hne
  exact ⟨b, off, rfl, Nat.lt_of_lt_of_le hb hs, fun i hi => (hc ⟨b, off + i, none⟩ rfl hb).trans (hcell i hi)⟩

theorem Row1.below (h : Row1 w v vs) (hb : Below w.heap.size w w') : Row1 w' v vs := h.same hb.size fun _ _ hp => hb.cell hp
theorem Row1.drew (h : Row1 w v vs) : Row1 w.drew v vs := h
theorem Row1.drewN (h : Row1 w v vs) (n : Nat) : Row1 (w.drewN n) v vs := h
theorem Row1.alloc (h : Row1 w v vs) (o : Obj) : Row1 (w.alloc o) v vs := h.below ((Below.refl _ _).alloc (Nat.le_refl _) o)
theorem Row1.grown {row : Option Nat} (h : Row1 w v vs) (hg : w.grownBy w' row) (hne : ∀ k, row = some k → v.ownBlock ≠ some k) : Row1 w' v vs :=
  h.same hg.size fun p hp hlt => hg.cell_far p hlt fun e => hne p.block e.symm hp
theorem Row1.store (h : Row1 w v vs) {a : Addr} (ha : v.ownBlock ≠ some a.block) (u : Value) : Row1 (w.setCell a u) v vs := by
  refine h.same (by simp) fun p hp _ => ?_
  refine World.cell?_of_block (w := w) ?_
  exact Below.heap_setCell w a u p.block (fun e => ha (by rw [hp, e]))

theorem own_drewN {base : Nat} {e : TypeId} {size n : Nat} {xs : List Value} (h : w.ownsRow base e size v n xs) (k : Nat) : (w.drewN k).ownsRow base e size v n xs := h
theorem below_drewN {B : Nat} {a : World} (h : Below B a w) (n : Nat) : Below B a (w.drewN n) := h.trans ⟨rfl, rfl, rfl, Nat.le_refl _, fun _ _ => rfl⟩

/-- A row of the call's own reads as its list. -/
theorem Row1.of_own {base : Nat} {e : TypeId} {n : Nat} (h : w.ownsRow base e 1 v n vs) : Row1 w v vs := by
  have hl : vs.length = n := by have := h.1; omega
  rcases h.2 with ⟨rfl, h0⟩ | ⟨g, cap, cur, rfl, hb, hg, h1, h2, _, _⟩
  · have : vs = [] := List.eq_nil_of_length_eq_zero (by omega)
    subst this
    exact Row1.nil w
  · refine ⟨some ⟨g, 0, none⟩, cap, by rw [hl], by omega, h2, (fun e => by cases e), fun _ => ⟨g, 0, rfl, (h.lt g rfl).2, fun i hi => ?_⟩⟩
    rw [Nat.zero_add]
    exact h.cellAt i (by omega)

theorem Row1.length_le (h : Row1 w v vs) : vs.length ≤ maxLen := by
  obtain ⟨a, cap, _, h1, h2, _⟩ := h
  omega

/-- A row of its own lies beyond what was there. -/
theorem Row1.own_ne {base : Nat} {e : TypeId} {size n : Nat} {xs : List Value} {x : Value} (h : w.ownsRow base e size x n xs) {k : Nat} (hk : k < base) : x.ownBlock ≠ some k := by
  intro e
  have := (h.lt k e).1
  omega

/-- append OF WHAT READS AS A LIST, onto a row of the call's own. -/
theorem run_append_row (t ty e : TypeId) (i : TypeInfo) (z : Value) (bytes : Nat) (ht : P.underlying t = some (.slice e)) (hi : P.info? e = some i) (hz : i.zero = some z)
    (hsize : i.size = 1) (hby : i.bytes = bytes) (hzs : z.cells.size = 1) (base : Nat) (x : Value) (n : Nat) (xs : List Value) (hown : w.ownsRow base e 1 x n xs)
    (hv : Row1 w v vs) (h1 : ∀ u ∈ vs, u.oneCell' = true) (h63 : n + vs.length ≤ maxLen) (hbytes : (n + vs.length) * bytes ≤ 140737488355328) (hbase : base ≤ w.heap.size) :
    ∃ x' w', (Builtin.append_ #[t, t] ty #[x, v]).run P w = .ok x' w' ∧ w'.ownsRow base e 1 x' (n + vs.length) (xs ++ vs) ∧ w.grownBy w' x.ownBlock := by
  obtain ⟨a, cap, rfl, hc1, hc2, hc3, hc4⟩ := hv
  cases a with
  | none =>
    have hcap := hc3 rfl
    have : vs = [] := List.eq_nil_of_length_eq_zero (by omega)
    subst this
    subst hcap
    refine ⟨x, w, run_append_owned_none w base t ty e i 1 ht hi x n xs hown, ?_, World.grownBy.refl _ _⟩
    simpa using hown
  | some ad =>
    have hnews : ∀ j u, vs[j]? = some u → w.cell? (ad.add j) = some u := by
      intro j u hu
      have hne : vs ≠ [] := by intro e; subst e; simp at hu
      obtain ⟨b, off, he, hb, hcell⟩ := hc4 hne
      cases he
      have hj : j < vs.length := by
        rcases Nat.lt_or_ge j vs.length with h | h
        · exact h
        · rw [List.getElem?_eq_none h] at hu; cases hu
      rw [WideShapes.add_plain, hcell j hj, hu]
    obtain ⟨x', w', hr, h2, h3, _⟩ := run_append_own (P := P) w base t ty e i z 1 bytes ht hi hz hsize hby hzs (by omega) x n xs hown ad vs.length cap vs (by omega) hnews h1 h63 hbytes hbase
    exact ⟨x', w', hr, h2, h3⟩

theorem wp_append_row {o : Oper} {a : Act} {K : Act → World → Prop} {Q : Exit → Act → World → Prop} (s y : Operand) (t : TypeId)
    (ho : o.op = .call { callee := .builtin .append, args := #[s, y], argTypes := #[t, t] })
    (base : Nat) (e : TypeId) (i : TypeInfo) (z : Value) (bytes : Nat) (ht : P.underlying t = some (.slice e)) (hi : P.info? e = some i) (hz : i.zero = some z)
    (hsize : i.size = 1) (hby : i.bytes = bytes) (hzs : z.cells.size = 1)
    (x : Value) (n : Nat) (xs : List Value) (hs : a.eval s = x) (hown : w.ownsRow base e 1 x n xs)
    (hx : a.eval y = v) (hv : Row1 w v vs) (h1 : ∀ u ∈ vs, u.oneCell' = true)
    (h63 : n + vs.length ≤ maxLen) (hbytes : (n + vs.length) * bytes ≤ 140737488355328) (hbase : base ≤ w.heap.size)
    (h : ∀ x' w', w'.ownsRow base e 1 x' (n + vs.length) (xs ++ vs) → w.grownBy w' x.ownBlock → K (a.put o.dst x') w') : o.wp P a w K Q := by
  obtain ⟨x', w', hr, h2, h3⟩ := run_append_row (P := P) (w := w) t o.type e i z bytes ht hi hz hsize hby hzs base x n xs hown hv h1 h63 hbytes hbase
  unfold Oper.wp execOp
  simp only [ho, resolve, invoke, builtin, Sem.run_bind, Sem.run_pure, Result.andThen_ok, List.map_toArray, List.map_cons, List.map_nil, hs, hx, hr]
  exact h x' w' h2 h3

/-- THE SAME, as the walk's law. -/
theorem wpList_append_row {ops : Array Oper} {rest : List Oper} {o : Oper} {a : Act} {Q : Exit → Act → World → Prop} (hgd : o.guard = none) (s y : Operand) (t : TypeId)
    (ho : o.op = .call { callee := .builtin .append, args := #[s, y], argTypes := #[t, t] })
    (base : Nat) (e : TypeId) (i : TypeInfo) (z : Value) (bytes : Nat) (ht : P.underlying t = some (.slice e)) (hi : P.info? e = some i) (hz : i.zero = some z)
    (hsize : i.size = 1) (hby : i.bytes = bytes) (hzs : z.cells.size = 1)
    (x : Value) (n : Nat) (xs : List Value) (hs : a.eval s = x) (hown : w.ownsRow base e 1 x n xs)
    (hx : a.eval y = v) (hv : Row1 w v vs) (h1 : ∀ u ∈ vs, u.oneCell' = true)
    (h63 : n + vs.length ≤ maxLen) (hbytes : (n + vs.length) * bytes ≤ 140737488355328) (hbase : base ≤ w.heap.size)
    (h : ∀ x' w', w'.ownsRow base e 1 x' (n + vs.length) (xs ++ vs) → w.grownBy w' x.ownBlock → wpList P ops Q rest (a.put o.dst x') w') : wpList P ops Q (o :: rest) a w :=
  wpList_plain hgd fun _ hK => wp_append_row s y t ho base e i z bytes ht hi hz hsize hby hzs x n xs hs hown hx hv h1 h63 hbytes hbase fun x' w' h2 h3 => hK _ _ (h x' w' h2 h3)

/-- THE SAME, as a step of a region that draws its order. -/
theorem step_append_row {ops : Array Oper} {o : Oper} {a : Act} {K : Act → World → Prop} {Q : Exit → Act → World → Prop} {E : Prop} (hgd : o.guard = none) (s y : Operand) (t : TypeId)
    (ho : o.op = .call { callee := .builtin .append, args := #[s, y], argTypes := #[t, t] })
    (base : Nat) (e : TypeId) (i : TypeInfo) (z : Value) (bytes : Nat) (ht : P.underlying t = some (.slice e)) (hi : P.info? e = some i) (hz : i.zero = some z)
    (hsize : i.size = 1) (hby : i.bytes = bytes) (hzs : z.cells.size = 1)
    (x : Value) (n : Nat) (xs : List Value) (hs : a.eval s = x) (hown : w.ownsRow base e 1 x n xs)
    (hx : a.eval y = v) (hv : Row1 w v vs) (h1 : ∀ u ∈ vs, u.oneCell' = true)
    (h63 : n + vs.length ≤ maxLen) (hbytes : (n + vs.length) * bytes ≤ 140737488355328) (hbase : base ≤ w.heap.size)
    (h : ∀ x' w', w'.ownsRow base e 1 x' (n + vs.length) (xs ++ vs) → w.grownBy w' x.ownBlock → K (a.put o.dst x') w') :
    if Region.wanted o (yielded ops a.tmps) = true then Oper.wp P o a w K Q else E := by
  have hw : Region.wanted o (yielded ops a.tmps) = true := by simp [Region.wanted, hgd]
  rw [if_pos hw]
  exact wp_append_row s y t ho base e i z bytes ht hi hz hsize hby hzs x n xs hs hown hx hv h1 h63 hbytes hbase h

/-- A new block of cells, as a row. -/
theorem Row1.made (w : World) (c : Array Value) (e : TypeId) (n m : Nat) (l : List Value) (hn : w.heap.size = n) (hc : c.toList = l) (hl : l.length = m) (hm : m ≤ maxLen) : Row1 (w.alloc (.cells c e)) (.slice (some ⟨n, 0, none⟩) m m) l := by
  subst hn; subst hl; subst hc
  refine ⟨_, _, rfl, Nat.le_refl _, hm, (fun e => by cases e), fun _ => ⟨w.heap.size, 0, rfl, by simp, fun i hi => ?_⟩⟩
  rw [Nat.zero_add, World.cell?_alloc_at _ _ _ _ rfl]
  simp

/-- A row of the call's own, where nothing that was there has turned. -/
theorem own_below {base : Nat} {e : TypeId} {size n : Nat} {xs : List Value} {x : Value} (h : w.ownsRow base e size x n xs) (hb : Below w.heap.size w w') : w'.ownsRow base e size x n xs := by
  obtain ⟨h1, h2⟩ := h
  refine ⟨h1, ?_⟩
  rcases h2 with h2 | ⟨g, cap, cur, r1, r2, r3, r4⟩
  · exact Or.inl h2
  · refine Or.inr ⟨g, cap, cur, r1, r2, ?_, r4⟩
    have hg : g < w.heap.size := by
      rcases Nat.lt_or_ge g w.heap.size with h | h
      · exact h
      · rw [Array.getElem?_eq_none h] at r3; cases r3
    rw [hb.block g hg, r3]

theorem own_mono {base base' : Nat} {e : TypeId} {size n : Nat} {xs : List Value} {x : Value} (h : w.ownsRow base e size x n xs) (hb : base' ≤ base) : w.ownsRow base' e size x n xs := by
  obtain ⟨h1, h2⟩ := h
  refine ⟨h1, ?_⟩
  rcases h2 with h2 | ⟨g, cap, cur, r1, r2, r3⟩
  · exact Or.inl h2
  · exact Or.inr ⟨g, cap, cur, r1, Nat.le_trans hb r2, r3⟩

/-- A block of cells of the call's own that is known whole: a struct behind a pointer, a variable. -/
def Blk (w : World) (c : Nat) (cs : List Value) (t : TypeId) : Prop := w.heap[c]? = some (.cells cs.toArray t (0, 0))

theorem Blk.cell {c : Nat} {cs : List Value} {t : TypeId} (h : Blk w c cs t) (i : Nat) : w.cell? ⟨c, i, none⟩ = cs[i]? := by
  unfold Blk at h
  simp [World.cell?, h]
theorem Blk.free {c : Nat} {cs : List Value} {t : TypeId} (h : Blk w c cs t) (i : Nat) : w.frozen? ⟨c, i, none⟩ = false := by
  unfold Blk at h
  simp [World.frozen?, h]
theorem Blk.lt {c : Nat} {cs : List Value} {t : TypeId} (h : Blk w c cs t) : c < w.heap.size := lt_of_block h
theorem Blk.set {c : Nat} {cs : List Value} {t : TypeId} (h : Blk w c cs t) (i : Nat) (u : Value) : Blk (w.setCell ⟨c, i, none⟩ u) c (cs.set i u) t := by
  have := heap_setCell_same w c i cs.toArray t u h
  unfold Blk
  rw [this]
  simp
theorem Blk.same {c : Nat} {cs : List Value} {t : TypeId} (h : Blk w c cs t) (he : w'.heap[c]? = w.heap[c]?) : Blk w' c cs t := he.trans h
theorem Blk.drewN {c : Nat} {cs : List Value} {t : TypeId} (h : Blk w c cs t) (n : Nat) : Blk (w.drewN n) c cs t := h
theorem Blk.grown {c : Nat} {cs : List Value} {t : TypeId} {row : Option Nat} (h : Blk w c cs t) (hg : w.grownBy w' row) (hne : row ≠ some c) : Blk w' c cs t :=
  h.same (hg.block c h.lt (fun e => hne e.symm))
theorem Blk.made (w : World) (cs : List Value) (t : TypeId) : Blk (w.alloc (.cells cs.toArray t)) w.heap.size cs t := heap_alloc_new w _

theorem grownBy_trans {a b d : World} {row : Option Nat} (h : a.grownBy b row) (g : b.grownBy d row) : a.grownBy d row :=
  ⟨g.os.trans h.os, g.tape.trans h.tape, g.output.trans h.output, Nat.le_trans h.size g.size, fun k hk hr => (g.block k (Nat.lt_of_lt_of_le hk h.size) hr).trans (h.block k hk hr)⟩
theorem grownBy_of_none {a b : World} {row : Option Nat} (h : a.grownBy b none) : a.grownBy b row :=
  ⟨h.os, h.tape, h.output, h.size, fun k hk _ => h.block k hk (by simp)⟩
theorem grownBy_set {a b : World} {c : Nat} (h : a.grownBy b (some c)) (i : Nat) (u : Value) : a.grownBy (b.setCell ⟨c, i, none⟩ u) (some c) :=
  ⟨h.os, h.tape, h.output, by simpa [World.setCell] using h.size, fun k hk hr => (heap_setCell_other b ⟨c, i, none⟩ k u (fun e => hr (by rw [e]))).trans (h.block k hk hr)⟩
theorem grownBy_drewN {a b : World} {row : Option Nat} (h : a.grownBy b row) (n : Nat) : a.grownBy (b.drewN n) row := ⟨h.os, h.tape, h.output, h.size, h.block⟩
theorem grownBy_fromN {a b : World} {row : Option Nat} {n : Nat} (h : (a.drewN n).grownBy b row) : a.grownBy b row := ⟨h.os, h.tape, h.output, h.size, h.block⟩
theorem grownBy_refl (a : World) (row : Option Nat) : a.grownBy a row := World.grownBy.refl a row
/-- New blocks alone, and writes to one that is new. -/
theorem below_of_grown {a b d : World} {c : Nat} (h : Below a.heap.size a b) (hg : b.grownBy d (some c)) (hc : a.heap.size ≤ c) : Below a.heap.size a d :=
  h.grown hg h.size (fun k hk => by cases hk; exact hc)
theorem grown_of_below {a b : World} (h : Below a.heap.size a b) (row : Option Nat) : a.grownBy b row :=
  ⟨h.os, h.tape, h.output, h.size, fun k hk _ => h.block k hk⟩
/-- A row of the call's own, where another block was written. -/
theorem own_grown {base : Nat} {e : TypeId} {size n : Nat} {xs : List Value} {x : Value} {row : Option Nat} (h : w.ownsRow base e size x n xs) (hg : w.grownBy w' row) (hne : ∀ k, row = some k → x.ownBlock ≠ some k) : w'.ownsRow base e size x n xs := by
  refine h.kept hg ?_
  cases hx : x.ownBlock with
  | none => exact Or.inl rfl
  | some k =>
    right
    intro e
    exact hne k e.symm hx
/-- A part of what reads as a list. -/
theorem Row1.cut {b off len cap : Nat} (h : Row1 w (.slice (some ⟨b, off, none⟩) len cap) vs) (i j : Nat) (hij : i ≤ j) (hj : j ≤ vs.length) : Row1 w (.slice (some ⟨b, off + i, none⟩) (j - i) (cap - i)) ((vs.drop i).take (j - i)) := by
  obtain ⟨a, cap', e, h1, h2, h3, h4⟩ := h
  cases e
  have hl : ((vs.drop i).take (j - i)).length = j - i := by simp; omega
  refine ⟨some ⟨b, off + i, none⟩, cap - i, by rw [hl], by rw [hl]; omega, by omega, (fun e => by cases e), fun hne => ?_⟩
  have hv : vs ≠ [] := by intro e; subst e; simp at hne
  obtain ⟨b', off', e, hb, hc⟩ := h4 hv
  cases e
  refine ⟨b, off + i, rfl, hb, fun k hk => ?_⟩
  rw [hl] at hk
  rw [Nat.add_assoc, hc (i + k) (by omega), List.getElem?_take, if_pos hk, List.getElem?_drop]

/-- A part of what reads as a list, where the address is a letter. -/
theorem Row1.sliced {ad : Addr} {len cap : Nat} (h : Row1 w (.slice (some ad) len cap) vs) (i n : Nat) (hj : i + n ≤ vs.length) : Row1 w (.slice (some (ad.add i)) n (cap - i)) ((vs.drop i).take n) := by
  obtain ⟨a, cap', e, h1, h2, h3, h4⟩ := h
  cases e
  have hl : ((vs.drop i).take n).length = n := by simp; omega
  refine ⟨some (ad.add i), cap - i, by rw [hl], by rw [hl]; omega, by omega, (fun e => by cases e), fun hne => ?_⟩
  have hv : vs ≠ [] := by intro e; subst e; simp at hne
  obtain ⟨b', off', e, hb, hc⟩ := h4 hv
  cases e
  refine ⟨b', off' + i, by rw [WideShapes.add_plain], hb, fun k hk => ?_⟩
  rw [hl] at hk
  rw [Nat.add_assoc, hc (i + k) (by omega), List.getElem?_take, if_pos hk, List.getElem?_drop]
/-- Nothing, at whatever address. -/
theorem Row1.empty (w : World) (ad : Addr) (cap : Nat) (hm : cap ≤ maxLen) : Row1 w (.slice (some ad) 0 cap) [] :=
  ⟨some ad, cap, rfl, Nat.zero_le _, hm, (fun e => by cases e), fun h => absurd rfl h⟩

/-- A byte as a cell. -/
def bval (b : UInt8) : Value := .int .u8 (b.toNat : Int)
theorem bval_one (l : List UInt8) : ∀ u ∈ l.map bval, u.oneCell' = true := by
  intro u hu
  obtain ⟨c, _, rfl⟩ := List.mem_map.1 hu
  rfl

theorem foldl_bytes : ∀ (l : List UInt8) (s : ByteArray), ((l.map fun b => (b.toNat : Int)).foldl (fun r n => r.push (UInt8.ofNat n.toNat)) s).data = s.data ++ l.toArray
  | [], s => by simp
  | b :: l, s => by
    simp only [List.map_cons, List.foldl_cons]
    rw [foldl_bytes l]
    simp [ByteArray.push]

/-- A slice of byte slices that reads as the list of lists. -/
def RowB (w : World) (v : Value) (ls : List (List UInt8)) : Prop :=
  ∃ vals : List Value, Row1 w v vals ∧ vals.length = ls.length ∧ ∀ (i : Nat) (x : Value) (l : List UInt8), vals[i]? = some x → ls[i]? = some l → Row1 w x (l.map bval)

theorem RowB.drew {ls : List (List UInt8)} (h : RowB w v ls) : RowB w.drew v ls := h
theorem RowB.below {ls : List (List UInt8)} (h : RowB w v ls) (hb : Below w.heap.size w w') : RowB w' v ls := by
  obtain ⟨vals, h1, h2, h3⟩ := h
  exact ⟨vals, h1.below hb, h2, fun i x l hx hl => (h3 i x l hx hl).below hb⟩

/-- string(b): the text of the bytes. -/
theorem run_string_row (src dst e : TypeId) (hs : P.underlying src = some (.slice e)) (he : P.underlying e = some (.int .u8)) (hd : P.underlying dst = some .string) {l : List UInt8} (h : Row1 w v (l.map bval)) :
    (convert src dst v).run P w = .ok (.string ⟨l.toArray⟩) w := by
  obtain ⟨a, cap, rfl, hc1, hc2, hc3, hc4⟩ := h
  rw [run_convert_bytes_string w src dst e a _ cap hs he hd]
  cases a with
  | none =>
    have hcap := hc3 rfl
    have : l = [] := by
      have : (l.map bval).length = 0 := by omega
      exact List.eq_nil_of_length_eq_zero (by simpa using this)
    subst this
    rfl
  | some ad =>
    have hload : (loadCells ad (l.map bval).length).run P w = .ok ((l.map fun b => (b.toNat : Int)).map (Value.int .u8)).toArray w := by
      rw [show (l.map fun b => (b.toNat : Int)).map (Value.int .u8) = l.map bval from by simp [bval, Function.comp_def]]
      have := run_loadCells_list (P := P) (w := w) ad (l.map bval) (fun j u hu => by
        have hne : l.map bval ≠ [] := by intro e; rw [e] at hu; simp at hu
        obtain ⟨b, off, he, hb, hcell⟩ := hc4 hne
        cases he
        have hj : j < (l.map bval).length := by
          rcases Nat.lt_or_ge j (l.map bval).length with h | h
          · exact h
          · rw [List.getElem?_eq_none h] at hu; cases hu
        rw [WideShapes.add_plain, hcell j hj, hu])
      exact this
    rw [run_bytesToString w ad _ cap _ hload]
    congr 2
    have := foldl_bytes l ByteArray.empty
    generalize (List.foldl (fun r n => r.push (UInt8.ofNat n.toNat)) ByteArray.empty (l.map fun b => (b.toNat : Int))) = r at this ⊢
    cases r
    simpa using this
end

end Go.Proofs.Ytjnnhkodkbhbbaa
