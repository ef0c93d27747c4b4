/- Texts that belong together, one behind the other; each says in its own first remark what it shows. -/
import Derived.WalkKit
import Derived.WalkSpells
import Derived.WalkLawsBesides
import Derived.Lib.Hide
import Derived.Deep.QuietTactic
import Derived.BigQuiet
import Derived.Deep.RegionHeld3
import Derived.Deep.AppendLies
import Derived.OneCell
import Derived.Test.YtelenldabjmjbaaRows
import Derived.ProofKit
import Derived.Deep.Slices
import Derived.Laws.Cover2
import Derived.OpenShut
import Derived.Deep.MidRow
import Derived.Deep.Quiet
import Derived.OrdersHeld
import Derived.Deep.RegionHeld
import Derived.ChangeKeysEq
import Derived.Laws.ResultCell
import Derived.Test.YtelenldabjmjbaaProg
import Derived.Laws.Bits64b
import Derived.Deep.CutRange
import Derived.Deep.RegionWith
import Derived.Laws.Slices

/- Rows of one-cell values in memory: a slice that reads as a list, carried into later worlds, cut, appended onto a row of the call's own, made a string. Each theorem names its own conditions; nothing here speaks of a program. -/
namespace Go.Proofs.Ytelenldabjmjbaa
open Go.RowKit

/-- A slice that reads as a list of one-cell values. -/
def Row1 (w : World) (v : Value) (vs : List Value) : Prop :=
  ∃ a cap, v = .slice a vs.length cap ∧ vs.length ≤ cap ∧ cap ≤ maxLen ∧ (a = none → cap = 0) ∧ (vs ≠ [] → ∃ b off, a = some ⟨b, off, none⟩ ∧ b < w.heap.size ∧ ∀ i, i < vs.length → w.cell? ⟨b, off + i, none⟩ = vs[i]?)

section
variable {P : Program} {w w' : World} {v : Value} {vs : List Value}

theorem Row1.nil (w : World) : Row1 w (.slice none 0 0) [] := ⟨none, 0, rfl, Nat.le_refl _, Nat.zero_le _, fun _ => rfl, fun h => absurd rfl h⟩

/-- In a world in which the cells of the old blocks are as they were. -/
theorem Row1.same (h : Row1 w v vs) (hs : w.heap.size ≤ w'.heap.size) (hc : ∀ p : Addr, v.ownBlock = some p.block → p.block < w.heap.size → w'.cell? p = w.cell? p) : Row1 w' v vs := by
  obtain ⟨a, cap, rfl, h1, h2, h3, h4⟩ := h
  refine ⟨a, cap, rfl, h1, h2, h3, fun hne => ?_⟩
  obtain ⟨b, off, rfl, hb, hcell⟩ := h4 hne
  exact ⟨b, off, rfl, Nat.lt_of_lt_of_le hb hs, fun i hi => (hc ⟨b, off + i, none⟩ rfl hb).trans (hcell i hi)⟩

theorem Row1.below (h : Row1 w v vs) (hb : Below w.heap.size w w') : Row1 w' v vs := h.same hb.size fun _ _ hp => hb.cell hp
theorem Row1.drew (h : Row1 w v vs) : Row1 w.drew v vs := h
theorem Row1.drewN (h : Row1 w v vs) (n : Nat) : Row1 (w.drewN n) v vs := h
theorem Row1.alloc (h : Row1 w v vs) (o : Obj) : Row1 (w.alloc o) v vs := h.below ((Below.refl _ _).alloc (Nat.le_refl _) o)
theorem Row1.grown {row : Option Nat} (h : Row1 w v vs) (hg : w.grownBy w' row) (hne : ∀ k, row = some k → v.ownBlock ≠ some k) : Row1 w' v vs :=
  h.same hg.size fun p hp hlt => hg.cell_far p hlt fun e => hne p.block e.symm hp
theorem Row1.store (h : Row1 w v vs) {a : Addr} (ha : v.ownBlock ≠ some a.block) (u : Value) : Row1 (w.setCell a u) v vs := by
  refine h.same (by simp) fun p hp _ => ?_
  refine World.cell?_of_block (w := w) ?_
  exact Below.heap_setCell w a u p.block (fun e => ha (by rw [hp, e]))

theorem own_drewN {base : Nat} {e : TypeId} {size n : Nat} {xs : List Value} (h : w.ownsRow base e size v n xs) (k : Nat) : (w.drewN k).ownsRow base e size v n xs := h
theorem below_drewN {B : Nat} {a : World} (h : Below B a w) (n : Nat) : Below B a (w.drewN n) := h.trans ⟨rfl, rfl, rfl, Nat.le_refl _, fun _ _ => rfl⟩

/-- A row of the call's own reads as its list. -/
theorem Row1.of_own {base : Nat} {e : TypeId} {n : Nat} (h : w.ownsRow base e 1 v n vs) : Row1 w v vs := by
  have hl : vs.length = n := by have := h.1; omega
  rcases h.2 with ⟨rfl, h0⟩ | ⟨g, cap, cur, rfl, hb, hg, h1, h2, _, _⟩
  · have : vs = [] := List.eq_nil_of_length_eq_zero (by omega)
    subst this
    exact Row1.nil w
  · refine ⟨some ⟨g, 0, none⟩, cap, by rw [hl], by omega, h2, (fun e => by cases e), fun _ => ⟨g, 0, rfl, (h.lt g rfl).2, fun i hi => ?_⟩⟩
    rw [Nat.zero_add]
    exact h.cellAt i (by omega)

theorem Row1.length_le (h : Row1 w v vs) : vs.length ≤ maxLen := by
  obtain ⟨a, cap, _, h1, h2, _⟩ := h
  omega

/-- A row of its own lies beyond what was there. -/
theorem Row1.own_ne {base : Nat} {e : TypeId} {size n : Nat} {xs : List Value} {x : Value} (h : w.ownsRow base e size x n xs) {k : Nat} (hk : k < base) : x.ownBlock ≠ some k := by
  intro e
  have := (h.lt k e).1
  omega

/-- append OF WHAT READS AS A LIST, onto a row of the call's own. -/
theorem run_append_row (t ty e : TypeId) (i : TypeInfo) (z : Value) (bytes : Nat) (ht : P.underlying t = some (.slice e)) (hi : P.info? e = some i) (hz : i.zero = some z)
    (hsize : i.size = 1) (hby : i.bytes = bytes) (hzs : z.cells.size = 1) (base : Nat) (x : Value) (n : Nat) (xs : List Value) (hown : w.ownsRow base e 1 x n xs)
    (hv : Row1 w v vs) (h1 : ∀ u ∈ vs, u.oneCell' = true) (h63 : n + vs.length ≤ maxLen) (hbytes : (n + vs.length) * bytes ≤ 140737488355328) (hbase : base ≤ w.heap.size) :
    ∃ x' w', (Builtin.append_ #[t, t] ty #[x, v]).run P w = .ok x' w' ∧ w'.ownsRow base e 1 x' (n + vs.length) (xs ++ vs) ∧ w.grownBy w' x.ownBlock := by
  obtain ⟨a, cap, rfl, hc1, hc2, hc3, hc4⟩ := hv
  cases a with
  | none =>
    have hcap := hc3 rfl
    have : vs = [] := List.eq_nil_of_length_eq_zero (by omega)
    subst this
    subst hcap
    refine ⟨x, w, run_append_owned_none w base t ty e i 1 ht hi x n xs hown, ?_, World.grownBy.refl _ _⟩
    simpa using hown
  | some ad =>
    have hnews : ∀ j u, vs[j]? = some u → w.cell? (ad.add j) = some u := by
      intro j u hu
      have hne : vs ≠ [] := by intro e; subst e; simp at hu
      obtain ⟨b, off, he, hb, hcell⟩ := hc4 hne
      cases he
      have hj : j < vs.length := by
        rcases Nat.lt_or_ge j vs.length with h | h
        · exact h
        · rw [List.getElem?_eq_none h] at hu; cases hu
      rw [WideShapes.add_plain, hcell j hj, hu]
    obtain ⟨x', w', hr, h2, h3, _⟩ := run_append_own (P := P) w base t ty e i z 1 bytes ht hi hz hsize hby hzs (by omega) x n xs hown ad vs.length cap vs (by omega) hnews h1 h63 hbytes hbase
    exact ⟨x', w', hr, h2, h3⟩

theorem wp_append_row {o : Oper} {a : Act} {K : Act → World → Prop} {Q : Exit → Act → World → Prop} (s y : Operand) (t : TypeId)
    (ho : o.op = .call { callee := .builtin .append, args := #[s, y], argTypes := #[t, t] })
    (base : Nat) (e : TypeId) (i : TypeInfo) (z : Value) (bytes : Nat) (ht : P.underlying t = some (.slice e)) (hi : P.info? e = some i) (hz : i.zero = some z)
    (hsize : i.size = 1) (hby : i.bytes = bytes) (hzs : z.cells.size = 1)
    (x : Value) (n : Nat) (xs : List Value) (hs : a.eval s = x) (hown : w.ownsRow base e 1 x n xs)
    (hx : a.eval y = v) (hv : Row1 w v vs) (h1 : ∀ u ∈ vs, u.oneCell' = true)
    (h63 : n + vs.length ≤ maxLen) (hbytes : (n + vs.length) * bytes ≤ 140737488355328) (hbase : base ≤ w.heap.size)
    (h : ∀ x' w', w'.ownsRow base e 1 x' (n + vs.length) (xs ++ vs) → w.grownBy w' x.ownBlock → K (a.put o.dst x') w') : o.wp P a w K Q := by
  obtain ⟨x', w', hr, h2, h3⟩ := run_append_row (P := P) (w := w) t o.type e i z bytes ht hi hz hsize hby hzs base x n xs hown hv h1 h63 hbytes hbase
  unfold Oper.wp execOp
  simp only [ho, resolve, invoke, builtin, Sem.run_bind, Sem.run_pure, Result.andThen_ok, List.map_toArray, List.map_cons, List.map_nil, hs, hx, hr]
  exact h x' w' h2 h3

/-- THE SAME, as the walk's law. -/
theorem wpList_append_row {ops : Array Oper} {rest : List Oper} {o : Oper} {a : Act} {Q : Exit → Act → World → Prop} (hgd : o.guard = none) (s y : Operand) (t : TypeId)
    (ho : o.op = .call { callee := .builtin .append, args := #[s, y], argTypes := #[t, t] })
    (base : Nat) (e : TypeId) (i : TypeInfo) (z : Value) (bytes : Nat) (ht : P.underlying t = some (.slice e)) (hi : P.info? e = some i) (hz : i.zero = some z)
    (hsize : i.size = 1) (hby : i.bytes = bytes) (hzs : z.cells.size = 1)
    (x : Value) (n : Nat) (xs : List Value) (hs : a.eval s = x) (hown : w.ownsRow base e 1 x n xs)
    (hx : a.eval y = v) (hv : Row1 w v vs) (h1 : ∀ u ∈ vs, u.oneCell' = true)
    (h63 : n + vs.length ≤ maxLen) (hbytes : (n + vs.length) * bytes ≤ 140737488355328) (hbase : base ≤ w.heap.size)
    (h : ∀ x' w', w'.ownsRow base e 1 x' (n + vs.length) (xs ++ vs) → w.grownBy w' x.ownBlock → wpList P ops Q rest (a.put o.dst x') w') : wpList P ops Q (o :: rest) a w :=
  wpList_plain hgd fun _ hK => wp_append_row s y t ho base e i z bytes ht hi hz hsize hby hzs x n xs hs hown hx hv h1 h63 hbytes hbase fun x' w' h2 h3 => hK _ _ (h x' w' h2 h3)

/-- THE SAME, as a step of a region that draws its order. -/
theorem step_append_row {ops : Array Oper} {o : Oper} {a : Act} {K : Act → World → Prop} {Q : Exit → Act → World → Prop} {E : Prop} (hgd : o.guard = none) (s y : Operand) (t : TypeId)
    (ho : o.op = .call { callee := .builtin .append, args := #[s, y], argTypes := #[t, t] })
    (base : Nat) (e : TypeId) (i : TypeInfo) (z : Value) (bytes : Nat) (ht : P.underlying t = some (.slice e)) (hi : P.info? e = some i) (hz : i.zero = some z)
    (hsize : i.size = 1) (hby : i.bytes = bytes) (hzs : z.cells.size = 1)
    (x : Value) (n : Nat) (xs : List Value) (hs : a.eval s = x) (hown : w.ownsRow base e 1 x n xs)
    (hx : a.eval y = v) (hv : Row1 w v vs) (h1 : ∀ u ∈ vs, u.oneCell' = true)
    (h63 : n + vs.length ≤ maxLen) (hbytes : (n + vs.length) * bytes ≤ 140737488355328) (hbase : base ≤ w.heap.size)
    (h : ∀ x' w', w'.ownsRow base e 1 x' (n + vs.length) (xs ++ vs) → w.grownBy w' x.ownBlock → K (a.put o.dst x') w') :
    if Region.wanted o (yielded ops a.tmps) = true then Oper.wp P o a w K Q else E := by
  have hw : Region.wanted o (yielded ops a.tmps) = true := by simp [Region.wanted, hgd]
  rw [if_pos hw]
  exact wp_append_row s y t ho base e i z bytes ht hi hz hsize hby hzs x n xs hs hown hx hv h1 h63 hbytes hbase h

/-- A new block of cells, as a row. -/
theorem Row1.made (w : World) (c : Array Value) (e : TypeId) (n m : Nat) (l : List Value) (hn : w.heap.size = n) (hc : c.toList = l) (hl : l.length = m) (hm : m ≤ maxLen) : Row1 (w.alloc (.cells c e)) (.slice (some ⟨n, 0, none⟩) m m) l := by
  subst hn; subst hl; subst hc
  refine ⟨_, _, rfl, Nat.le_refl _, hm, (fun e => by cases e), fun _ => ⟨w.heap.size, 0, rfl, by simp, fun i hi => ?_⟩⟩
  rw [Nat.zero_add, World.cell?_alloc_at _ _ _ _ rfl]
  simp

/-- A row of the call's own, where nothing that was there has turned. -/
theorem own_below {base : Nat} {e : TypeId} {size n : Nat} {xs : List Value} {x : Value} (h : w.ownsRow base e size x n xs) (hb : Below w.heap.size w w') : w'.ownsRow base e size x n xs := by
  obtain ⟨h1, h2⟩ := h
  refine ⟨h1, ?_⟩
  rcases h2 with h2 | ⟨g, cap, cur, r1, r2, r3, r4⟩
  · exact Or.inl h2
  · refine Or.inr ⟨g, cap, cur, r1, r2, ?_, r4⟩
    have hg : g < w.heap.size := by
      rcases Nat.lt_or_ge g w.heap.size with h | h
      · exact h
      · rw [Array.getElem?_eq_none h] at r3; cases r3
    rw [hb.block g hg, r3]

theorem own_mono {base base' : Nat} {e : TypeId} {size n : Nat} {xs : List Value} {x : Value} (h : w.ownsRow base e size x n xs) (hb : base' ≤ base) : w.ownsRow base' e size x n xs := by
  obtain ⟨h1, h2⟩ := h
  refine ⟨h1, ?_⟩
  rcases h2 with h2 | ⟨g, cap, cur, r1, r2, r3⟩
  · exact Or.inl h2
  · exact Or.inr ⟨g, cap, cur, r1, Nat.le_trans hb r2, r3⟩

/-- A block of cells of the call's own that is known whole: a struct behind a pointer, a variable. -/
def Blk (w : World) (c : Nat) (cs : List Value) (t : TypeId) : Prop := w.heap[c]? = some (.cells cs.toArray t (0, 0))

theorem Blk.cell {c : Nat} {cs : List Value} {t : TypeId} (h : Blk w c cs t) (i : Nat) : w.cell? ⟨c, i, none⟩ = cs[i]? := by
  unfold Blk at h
  simp [World.cell?, h]
theorem Blk.free {c : Nat} {cs : List Value} {t : TypeId} (h : Blk w c cs t) (i : Nat) : w.frozen? ⟨c, i, none⟩ = false := by
  unfold Blk at h
  simp [World.frozen?, h]
theorem Blk.lt {c : Nat} {cs : List Value} {t : TypeId} (h : Blk w c cs t) : c < w.heap.size := lt_of_block h
theorem Blk.set {c : Nat} {cs : List Value} {t : TypeId} (h : Blk w c cs t) (i : Nat) (u : Value) : Blk (w.setCell ⟨c, i, none⟩ u) c (cs.set i u) t := by
  have := heap_setCell_same w c i cs.toArray t u h
  unfold Blk
  rw [this]
  simp
theorem Blk.same {c : Nat} {cs : List Value} {t : TypeId} (h : Blk w c cs t) (he : w'.heap[c]? = w.heap[c]?) : Blk w' c cs t := he.trans h
theorem Blk.drewN {c : Nat} {cs : List Value} {t : TypeId} (h : Blk w c cs t) (n : Nat) : Blk (w.drewN n) c cs t := h
theorem Blk.grown {c : Nat} {cs : List Value} {t : TypeId} {row : Option Nat} (h : Blk w c cs t) (hg : w.grownBy w' row) (hne : row ≠ some c) : Blk w' c cs t :=
  h.same (hg.block c h.lt (fun e => hne e.symm))
theorem Blk.made (w : World) (cs : List Value) (t : TypeId) : Blk (w.alloc (.cells cs.toArray t)) w.heap.size cs t := heap_alloc_new w _

theorem grownBy_trans {a b d : World} {row : Option Nat} (h : a.grownBy b row) (g : b.grownBy d row) : a.grownBy d row :=
  ⟨g.os.trans h.os, g.tape.trans h.tape, g.output.trans h.output, Nat.le_trans h.size g.size, fun k hk hr => (g.block k (Nat.lt_of_lt_of_le hk h.size) hr).trans (h.block k hk hr)⟩
theorem grownBy_of_none {a b : World} {row : Option Nat} (h : a.grownBy b none) : a.grownBy b row :=
  ⟨h.os, h.tape, h.output, h.size, fun k hk _ => h.block k hk (by simp)⟩
theorem grownBy_set {a b : World} {c : Nat} (h : a.grownBy b (some c)) (i : Nat) (u : Value) : a.grownBy (b.setCell ⟨c, i, none⟩ u) (some c) :=
  ⟨h.os, h.tape, h.output, by simpa [World.setCell] using h.size, fun k hk hr => (heap_setCell_other b ⟨c, i, none⟩ k u (fun e => hr (by rw [e]))).trans (h.block k hk hr)⟩
theorem grownBy_drewN {a b : World} {row : Option Nat} (h : a.grownBy b row) (n : Nat) : a.grownBy (b.drewN n) row := ⟨h.os, h.tape, h.output, h.size, h.block⟩
theorem grownBy_fromN {a b : World} {row : Option Nat} {n : Nat} (h : (a.drewN n).grownBy b row) : a.grownBy b row := ⟨h.os, h.tape, h.output, h.size, h.block⟩
theorem grownBy_refl (a : World) (row : Option Nat) : a.grownBy a row := World.grownBy.refl a row
/-- New blocks alone, and writes to one that is new. -/
theorem below_of_grown {a b d : World} {c : Nat} (h : Below a.heap.size a b) (hg : b.grownBy d (some c)) (hc : a.heap.size ≤ c) : Below a.heap.size a d :=
  h.grown hg h.size (fun k hk => by cases hk; exact hc)
theorem grown_of_below {a b : World} (h : Below a.heap.size a b) (row : Option Nat) : a.grownBy b row :=
  ⟨h.os, h.tape, h.output, h.size, fun k hk _ => h.block k hk⟩
/-- A row of the call's own, where another block was written. -/
theorem own_grown {base : Nat} {e : TypeId} {size n : Nat} {xs : List Value} {x : Value} {row : Option Nat} (h : w.ownsRow base e size x n xs) (hg : w.grownBy w' row) (hne : ∀ k, row = some k → x.ownBlock ≠ some k) : w'.ownsRow base e size x n xs := by
  refine h.kept hg ?_
  cases hx : x.ownBlock with
  | none => exact Or.inl rfl
  | some k =>
    right
    intro e
    exact hne k e.symm hx
/-- A part of what reads as a list. -/
theorem Row1.cut {b off len cap : Nat} (h : Row1 w (.slice (some ⟨b, off, none⟩) len cap) vs) (i j : Nat) (hij : i ≤ j) (hj : j ≤ vs.length) : Row1 w (.slice (some ⟨b, off + i, none⟩) (j - i) (cap - i)) ((vs.drop i).take (j - i)) := by
  obtain ⟨a, cap', e, h1, h2, h3, h4⟩ := h
  cases e
  have hl : ((vs.drop i).take (j - i)).length = j - i := by simp; omega
  refine ⟨some ⟨b, off + i, none⟩, cap - i, by rw [hl], by rw [hl]; omega, by omega, (fun e => by cases e), fun hne => ?_⟩
  have hv : vs ≠ [] := by intro e; subst e; simp at hne
  obtain ⟨b', off', e, hb, hc⟩ := h4 hv
  cases e
  refine ⟨b, off + i, rfl, hb, fun k hk => ?_⟩
  rw [hl] at hk
  rw [Nat.add_assoc, hc (i + k) (by omega), List.getElem?_take, if_pos hk, List.getElem?_drop]

/-- A part of what reads as a list, where the address is a letter. -/
theorem Row1.sliced {ad : Addr} {len cap : Nat} (h : Row1 w (.slice (some ad) len cap) vs) (i n : Nat) (hj : i + n ≤ vs.length) : Row1 w (.slice (some (ad.add i)) n (cap - i)) ((vs.drop i).take n) := by
  obtain ⟨a, cap', e, h1, h2, h3, h4⟩ := h
  cases e
  have hl : ((vs.drop i).take n).length = n := by simp; omega
  refine ⟨some (ad.add i), cap - i, by rw [hl], by rw [hl]; omega, by omega, (fun e => by cases e), fun hne => ?_⟩
  have hv : vs ≠ [] := by intro e; subst e; simp at hne
  obtain ⟨b', off', e, hb, hc⟩ := h4 hv
  cases e
  refine ⟨b', off' + i, by rw [WideShapes.add_plain], hb, fun k hk => ?_⟩
  rw [hl] at hk
  rw [Nat.add_assoc, hc (i + k) (by omega), List.getElem?_take, if_pos hk, List.getElem?_drop]
/-- Nothing, at whatever address. -/
theorem Row1.empty (w : World) (ad : Addr) (cap : Nat) (hm : cap ≤ maxLen) : Row1 w (.slice (some ad) 0 cap) [] :=
  ⟨some ad, cap, rfl, Nat.zero_le _, hm, (fun e => by cases e), fun h => absurd rfl h⟩

/-- A byte as a cell. -/
def bval (b : UInt8) : Value := .int .u8 (b.toNat : Int)
theorem bval_one (l : List UInt8) : ∀ u ∈ l.map bval, u.oneCell' = true := by
  intro u hu
  obtain ⟨c, _, rfl⟩ := List.mem_map.1 hu
  rfl

theorem foldl_bytes : ∀ (l : List UInt8) (s : ByteArray), ((l.map fun b => (b.toNat : Int)).foldl (fun r n => r.push (UInt8.ofNat n.toNat)) s).data = s.data ++ l.toArray
  | [], s => by simp
  | b :: l, s => by
    simp only [List.map_cons, List.foldl_cons]
    rw [foldl_bytes l]
    simp [ByteArray.push]

/-- A slice of byte slices that reads as the list of lists. -/
def RowB (w : World) (v : Value) (ls : List (List UInt8)) : Prop :=
  ∃ vals : List Value, Row1 w v vals ∧ vals.length = ls.length ∧ ∀ (i : Nat) (x : Value) (l : List UInt8), vals[i]? = some x → ls[i]? = some l → Row1 w x (l.map bval)

theorem RowB.drew {ls : List (List UInt8)} (h : RowB w v ls) : RowB w.drew v ls := h
theorem RowB.below {ls : List (List UInt8)} (h : RowB w v ls) (hb : Below w.heap.size w w') : RowB w' v ls := by
  obtain ⟨vals, h1, h2, h3⟩ := h
  exact ⟨vals, h1.below hb, h2, fun i x l hx hl => (h3 i x l hx hl).below hb⟩

/-- string(b): the text of the bytes. -/
theorem run_string_row (src dst e : TypeId) (hs : P.underlying src = some (.slice e)) (he : P.underlying e = some (.int .u8)) (hd : P.underlying dst = some .string) {l : List UInt8} (h : Row1 w v (l.map bval)) :
    (convert src dst v).run P w = .ok (.string ⟨l.toArray⟩) w := by
  obtain ⟨a, cap, rfl, hc1, hc2, hc3, hc4⟩ := h
  rw [run_convert_bytes_string w src dst e a _ cap hs he hd]
  cases a with
  | none =>
    have hcap := hc3 rfl
    have : l = [] := by
      have : (l.map bval).length = 0 := by omega
      exact List.eq_nil_of_length_eq_zero (by simpa using this)
    subst this
    rfl
  | some ad =>
    have hload : (loadCells ad (l.map bval).length).run P w = .ok ((l.map fun b => (b.toNat : Int)).map (Value.int .u8)).toArray w := by
      rw [show (l.map fun b => (b.toNat : Int)).map (Value.int .u8) = l.map bval from by simp [bval, Function.comp_def]]
      have := run_loadCells_list (P := P) (w := w) ad (l.map bval) (fun j u hu => by
        have hne : l.map bval ≠ [] := by intro e; rw [e] at hu; simp at hu
        obtain ⟨b, off, he, hb, hcell⟩ := hc4 hne
        cases he
        have hj : j < (l.map bval).length := by
          rcases Nat.lt_or_ge j (l.map bval).length with h | h
          · exact h
          · rw [List.getElem?_eq_none h] at hu; cases hu
        rw [WideShapes.add_plain, hcell j hj, hu])
      exact this
    rw [run_bytesToString w ad _ cap _ hload]
    congr 2
    have := foldl_bytes l ByteArray.empty
    generalize (List.foldl (fun r n => r.push (UInt8.ofNat n.toNat)) ByteArray.empty (l.map fun b => (b.toNat : Int))) = r at this ⊢
    cases r
    simpa using this
end

end Go.Proofs.Ytelenldabjmjbaa

/- A law whose every call returns true and leaves all that was there as it was holds as a row: one theorem for every law, whatever its parameters' types. No condition of its own. -/
namespace Go.Proofs.Ytelenldabjmjbaa
open Go.ChangeShapes Go.WideShapes Go.ChangeAt Go.RowKit

theorem trodAll_len {H : Type} {enc : TypeId × Value → H} {P : Program} {w : World} {base : Nat} {sp : Nat → Bool} {held : Bool} :
    ∀ {ts : List TypeId} {vs : List Value} {ds : List (DataW H)} {ps : List MemPlace}, DataW.TrodAll enc P w base sp held ts vs ds ps → ds.length = ts.length
  | [], _, _, _, h => by
    obtain ⟨rfl, rfl, rfl⟩ := trodAll_nil h
    rfl
  | _ :: _, _, _, _, h => by
    obtain ⟨v, vs1, d, ds1, a, b, rfl, rfl, rfl, g1, g2⟩ := trodAll_cons h
    simp [trodAll_len g2]

theorem trodAll_stays {H : Type} {enc : TypeId × Value → H} {P : Program} (hl : laidOutB P = true) {W W' : World} {base : Nat} {sp' : Nat → Bool} :
    ∀ {ts : List TypeId} {vs : List Value} {ds : List (DataW H)} {ps : List MemPlace}, (ts.all fun t => P.readableRec t && decide (t < P.types.size)) = true →
    DataW.TrodAll enc P W base (fun _ => true) true ts vs ds ps → (∀ p ∈ ps, W.sameAt W' p) → (∀ p ∈ ps, sp' p.block = true) → DataW.TrodAll enc P W' base sp' true ts vs ds ps
  | [], _, _, _, _, h, _, _ => by
    obtain ⟨rfl, rfl, rfl⟩ := trodAll_nil h
    exact trodAll_mk0
  | t :: ts, _, _, _, hr, h, h1, h2 => by
    obtain ⟨v, vs1, d, ds1, a, b, rfl, rfl, rfl, g1, g2⟩ := trodAll_cons h
    rw [List.all_cons, Bool.and_eq_true, Bool.and_eq_true] at hr
    obtain ⟨⟨r1, r2⟩, r3⟩ := hr
    exact ⟨a, b, WideElems.Trod_stays hl r1 (of_decide_eq_true r2) g1 (fun p hp => h1 p (List.mem_append_left _ hp)) (fun p hp => h2 p (List.mem_append_left _ hp)),
      trodAll_stays hl r3 g2 (fun p hp => h1 p (List.mem_append_right _ hp)) (fun p hp => h2 p (List.mem_append_right _ hp)), rfl⟩

/-- What a law's walk owes: of whatever arguments that can be read, true, and nothing that was there has turned. -/
def LawWalk {H : Type} (enc : TypeId × Value → H) (P : Program) (f : FuncId) (ts : List TypeId) : Prop :=
  ∀ (W : World) (base : Nat) (args : Array Value) (ds : List (DataW H)) (ps : List MemPlace),
    (∀ (j : Nat) (t : TypeId) (v : Value), ts[j]? = some t → args[j]? = some v → Value.okWide P W .any base t v) →
    DataW.TrodAll enc P W 0 (fun _ => true) true ts args.toList ds ps → (∀ x ∈ ps, x.block < W.heap.size) → W.noneFrozen ps →
    Calls P f args W fun e w' => e = .returned (.bool true) ∧ Below W.heap.size W w'

theorem law_lift {H : Type} {enc : TypeId × Value → H} {C : Checked} {os : Os} {f : FuncId} {fn : Func} {s : ChangeSpec} {tb : TypeId}
    (own : ownKnob C.prog.godebug = none) (laid : laidOutB C.prog = true) (started : os.Started)
    (hinit : C.prog.inits.idxOf? f = none) (hf : C.prog.funcs[f]? = some fn) (hvars : s.vars = [])
    (hread : (fn.params.toList.all fun t => C.prog.readableRec t && decide (t < C.prog.types.size)) = true)
    (hres : fn.resultTypes = #[tb]) (hb : C.prog.underlying tb = some .bool)
    (hs : ∀ ds : List (DataW H), ds.length = fn.params.toList.length → (s.fn H ds).results = [.lit (.bool true)] ∧ (s.fn H ds).args = ds ∧ (s.fn H ds).vars = [])
    (hwit : ∃ (w : World) (tape : Tape) (i : Input), w.os = os ∧ World.Shaped C.prog (w.forCall tape i) ∧ i.vars = [] ∧ Input.okWide C.prog (w.forCall tape i) Reach.any w.heap.size f i ∧
      ChangeSpec.pre6 enc C.prog fn s [] false (w.forCall tape i).memory i.args ∧ ({} : Assume).holds C.prog (lone (Frame.enter C.prog f i.args CallKind.normal) [] (w.forCall tape i)))
    (walk : LawWalk enc C.prog f fn.params.toList) :
    ReturnsInHanded {} C os f .any (s.pre6 enc C.prog fn [] false) (s.post enc C.prog fn false true false false) := by
  refine returnsInHanded_of_change own started hinit hf hwit ?_
  intro W base args ds gs before hval hW _ _
  have hW' := hW
  have hlt := hW.lt
  obtain ⟨p, q, hA, hV, rfl, hfz, hnd⟩ := hW
  rw [hvars] at hV
  obtain ⟨rfl, rfl⟩ := trodVars_none hV
  rw [List.append_nil] at hlt hfz
  have hlen := trodAll_len hA
  obtain ⟨e1, e2, e3⟩ := hs ds hlen
  refine (walk W base args ds p (fun j t v hj hv => hval j t v (by rw [← Array.getElem?_toList]; exact hj) hv) hA hlt hfz).mono ?_
  rintro e w' ⟨rfl, hbel⟩
  refine ⟨_, rfl, ds, [], p ++ [], [], p, [], hW', ?_, ?_, ?_, ?_, ?_⟩
  · rw [List.append_nil, e1, hres]
    exact trodAll_mk1 (shut_bool hb _)
  · rw [List.append_nil, e2]
    exact trodAll_stays laid hread hA (fun x hx => hbel.same (hlt x hx)) (fun x hx => by simpa using hlt x hx)
  · rw [hvars, List.append_nil, e3]
    rfl
  · exact hbel.frame _
  · intro h
    cases h

section
variable {H : Type} {enc : TypeId × Value → H} {P : Program} {W : World} {sp : Nat → Bool}

/-- A slice of one-cell elements, opened out of its reading: the list of its elements; each reads by itself. -/
theorem row1_of_trod {t e : TypeId} {fuel : Nat} {v : Value} {y : DataW H × List MemPlace} (ht : P.underlying t = some (.slice e)) (hc : P.cellsOf e = 1)
    (hf : DataW.trod enc P W 0 (fun _ => true) true fuel t [v] = some y) :
    ∃ vs : List Value, Row1 W v vs ∧ ∀ x ∈ vs, ∃ n y, DataW.trod enc P W 0 (fun _ => true) true n e [x] = some y := by
  rcases Deep.open_slice1 ht hc hf with ⟨hcs, _⟩ | ⟨a1, len1, cap1, m, n, V, D, Pl, hcs, hb, hl, hm, hmm, _, hx⟩
  · obtain rfl : v = .slice none 0 0 := by simpa using hcs
    exact ⟨[], Row1.nil W, fun x hx => by cases hx⟩
  · obtain rfl : v = .slice (some a1) len1 cap1 := by simpa using hcs
    simp only [if_true] at hmm
    refine ⟨(List.range len1).map V, ⟨some a1, cap1, by simp, by simpa using hl, hm, (fun e => by cases e), fun hne => ?_⟩, ?_⟩
    · have h0 : 0 < len1 := by
        rcases Nat.eq_zero_or_pos len1 with h | h
        · subst h; exact absurd rfl hne
        · exact h
      obtain ⟨b, off, spot⟩ := a1
      have hspot : spot = none := by simpa [Addr.add] using World.cell?_spot ((hx 0 (by omega)).1)
      subst hspot
      refine ⟨b, off, rfl, ?_, fun i hi => ?_⟩
      · have := (hx 0 (by omega)).1
        exact World.block_lt_of_cell? W _ this
      · have hi' : i < len1 := by simpa using hi
        rw [← add_plain, (hx i (by omega)).1]
        simp [hi']
    · intro x hxm
      obtain ⟨i, hi, rfl⟩ := List.mem_map.1 hxm
      have hi' : i < len1 := by simpa using hi
      exact ⟨n, _, (hx i (by omega)).2⟩

/-- A slice of one-cell elements, opened: the list of its elements; each reads by itself. -/
theorem open_row1 {base0 : Nat} {r : Reach} {t e : TypeId} {v : Value} {d : DataW H} {ps : List MemPlace} (ht : P.underlying t = some (.slice e)) (hc : P.cellsOf e = 1)
    (hval : Value.okWide P W r base0 t v) (hd : DataW.Trod enc P W 0 (fun _ => true) true t v d ps) :
    ∃ vs : List Value, Row1 W v vs ∧ ∀ x ∈ vs, ∃ n y, DataW.trod enc P W 0 (fun _ => true) true n e [x] = some y := by
  obtain ⟨a, len, cap, rfl⟩ := okWide_slice ht hval
  obtain ⟨fuel, hf⟩ := hd
  exact row1_of_trod (y := (d, ps)) ht hc (by simpa [Value.cells] using hf)

theorem cell_float {e : TypeId} {k : FloatKind} (he : P.underlying e = some (.float k)) {n : Nat} {x : Value} {y : DataW H × List MemPlace}
    (h : DataW.trod enc P W 0 sp true n e [x] = some y) : ∃ b, x = .float k b ∧ (Lit.float k b).wf = true := by
  cases n with
  | zero => simp [DataW.trod] at h
  | succ n =>
    unfold DataW.trod at h
    rw [he] at h
    cases x <;> simp at h
    rename_i k' b
    obtain ⟨⟨rfl, h2⟩, _⟩ := h
    exact ⟨b, rfl, h2⟩

theorem cell_int {e : TypeId} {k : IntKind} (he : P.underlying e = some (.int k)) {n : Nat} {x : Value} {y : DataW H × List MemPlace}
    (h : DataW.trod enc P W 0 sp true n e [x] = some y) : ∃ b, x = .int k b ∧ (Lit.int k b).wf = true := by
  cases n with
  | zero => simp [DataW.trod] at h
  | succ n =>
    unfold DataW.trod at h
    rw [he] at h
    cases x <;> simp at h
    rename_i k' b
    obtain ⟨⟨rfl, h2⟩, _⟩ := h
    exact ⟨b, rfl, h2⟩

/-- What each element is, of all of them. -/
theorem list_of_all {α : Type} {f : α → Value} {p : α → Prop} : ∀ {vs : List Value}, (∀ x ∈ vs, ∃ a, x = f a ∧ p a) → ∃ l : List α, vs = l.map f ∧ ∀ a ∈ l, p a
  | [], _ => ⟨[], rfl, fun a h => by cases h⟩
  | v :: vs, h => by
    obtain ⟨a, rfl, ha⟩ := h v (List.mem_cons_self ..)
    obtain ⟨l, rfl, hl⟩ := list_of_all (fun x hx => h x (List.mem_cons_of_mem _ hx))
    exact ⟨a :: l, rfl, fun b hb => by
      rcases List.mem_cons.1 hb with rfl | hb
      · exact ha
      · exact hl b hb⟩

theorem open_floats {base0 : Nat} {r : Reach} {t e : TypeId} {v : Value} {d : DataW H} {ps : List MemPlace} {k : FloatKind} (ht : P.underlying t = some (.slice e)) (he : P.underlying e = some (.float k)) (hc : P.cellsOf e = 1)
    (hval : Value.okWide P W r base0 t v) (hd : DataW.Trod enc P W 0 (fun _ => true) true t v d ps) : ∃ zs : List Nat, Row1 W v (zs.map (.float k)) := by
  obtain ⟨vs, h1, h2⟩ := open_row1 ht hc hval hd
  obtain ⟨l, rfl, _⟩ := list_of_all (f := Value.float k) (p := fun _ => True) (fun x hx => by
    obtain ⟨n, y, h⟩ := h2 x hx
    obtain ⟨b, rfl, _⟩ := cell_float he h
    exact ⟨b, rfl, trivial⟩)
  exact ⟨l, h1⟩

theorem open_numbers {base0 : Nat} {r : Reach} {t e : TypeId} {v : Value} {d : DataW H} {ps : List MemPlace} {k : IntKind} (ht : P.underlying t = some (.slice e)) (he : P.underlying e = some (.int k)) (hc : P.cellsOf e = 1)
    (hval : Value.okWide P W r base0 t v) (hd : DataW.Trod enc P W 0 (fun _ => true) true t v d ps) : ∃ zs : List Int, Row1 W v (zs.map (.int k)) ∧ ∀ n ∈ zs, (Lit.int k n).wf = true := by
  obtain ⟨vs, h1, h2⟩ := open_row1 ht hc hval hd
  obtain ⟨l, rfl, hl⟩ := list_of_all (f := Value.int k) (p := fun n => (Lit.int k n).wf = true) (fun x hx => by
    obtain ⟨n, y, h⟩ := h2 x hx
    exact cell_int he h)
  exact ⟨l, h1, hl⟩

theorem bytes_of_trod {t e : TypeId} {fuel : Nat} {v : Value} {y : DataW H × List MemPlace} (ht : P.underlying t = some (.slice e)) (he : P.underlying e = some (.int .u8)) (hc : P.cellsOf e = 1)
    (hf : DataW.trod enc P W 0 (fun _ => true) true fuel t [v] = some y) : ∃ l : List UInt8, Row1 W v (l.map bval) := by
  obtain ⟨vs, h1, h2⟩ := row1_of_trod ht hc hf
  obtain ⟨l, rfl, _⟩ := list_of_all (f := bval) (p := fun _ => True) (fun x hx => by
    obtain ⟨n, y, h⟩ := h2 x hx
    obtain ⟨b, rfl, hw⟩ := cell_int he h
    have hb : 0 ≤ b ∧ b ≤ 255 := by simpa [Lit.wf, IntKind.min, IntKind.max, IntKind.signed, IntKind.bits] using hw
    refine ⟨UInt8.ofNat b.toNat, ?_, trivial⟩
    unfold bval
    congr 1
    rw [UInt8.toNat_ofNat']
    omega)
  exact ⟨l, h1⟩

/-- A slice of bytes, opened. -/
theorem open_bytes {base0 : Nat} {r : Reach} {t e : TypeId} {v : Value} {d : DataW H} {ps : List MemPlace} (ht : P.underlying t = some (.slice e)) (he : P.underlying e = some (.int .u8)) (hc : P.cellsOf e = 1)
    (hval : Value.okWide P W r base0 t v) (hd : DataW.Trod enc P W 0 (fun _ => true) true t v d ps) : ∃ l : List UInt8, Row1 W v (l.map bval) := by
  obtain ⟨a, len, cap, rfl⟩ := okWide_slice ht hval
  obtain ⟨fuel, hf⟩ := hd
  exact bytes_of_trod (y := (d, ps)) ht he hc (by simpa [Value.cells] using hf)

theorem lists_of_all {w : World} : ∀ {vs : List Value}, (∀ x ∈ vs, ∃ l : List UInt8, Row1 w x (l.map bval)) → ∃ ls : List (List UInt8), vs.length = ls.length ∧ ∀ (i : Nat) (x : Value) (l : List UInt8), vs[i]? = some x → ls[i]? = some l → Row1 w x (l.map bval)
  | [], _ => ⟨[], rfl, fun i x l hx => by simp at hx⟩
  | v :: vs, h => by
    obtain ⟨l, hl⟩ := h v (List.mem_cons_self ..)
    obtain ⟨ls, h1, h2⟩ := lists_of_all (fun x hx => h x (List.mem_cons_of_mem _ hx))
    refine ⟨l :: ls, by simp [h1], fun i x k hx hk => ?_⟩
    cases i with
    | zero =>
      simp at hx hk
      subst hx; subst hk
      exact hl
    | succ i => exact h2 i x k (by simpa using hx) (by simpa using hk)

/-- A slice of slices of bytes, opened. -/
theorem open_bytes2 {base0 : Nat} {r : Reach} {t q e : TypeId} {v : Value} {d : DataW H} {ps : List MemPlace} (ht : P.underlying t = some (.slice q)) (hq : P.underlying q = some (.slice e)) (he : P.underlying e = some (.int .u8)) (hcq : P.cellsOf q = 1) (hc : P.cellsOf e = 1)
    (hval : Value.okWide P W r base0 t v) (hd : DataW.Trod enc P W 0 (fun _ => true) true t v d ps) : ∃ ls : List (List UInt8), RowB W v ls := by
  obtain ⟨vs, h1, h2⟩ := open_row1 ht hcq hval hd
  obtain ⟨ls, h3, h4⟩ := lists_of_all (w := W) (vs := vs) (fun x hx => by
    obtain ⟨n, y, h⟩ := h2 x hx
    exact bytes_of_trod hq he hc h)
  exact ⟨ls, vs, h1, h3, h4⟩

/-- An array of one-cell elements, opened. -/
theorem open_array {base0 : Nat} {r : Reach} {t e : TypeId} {len : Nat} {v : Value} {d : DataW H} {ps : List MemPlace} (ht : P.underlying t = some (.array len e)) (hc : P.cellsOf e = 1) (hct : P.cellsOf t = len)
    (hval : Value.okWide P W r base0 t v) (hd : DataW.Trod enc P W 0 (fun _ => true) true t v d ps) :
    ∃ vs : List Value, v = .agg vs.toArray ∧ vs.length = len ∧ ∀ x ∈ vs, ∃ n y, DataW.trod enc P W 0 (fun _ => true) true n e [x] = some y := by
  simp only [Value.okWide, ht] at hval
  obtain ⟨cs, rfl, hsz, _⟩ := hval
  rw [hct] at hsz
  obtain ⟨fuel, hf⟩ := hd
  obtain ⟨xs, m, _, _, hl, hxl, hx⟩ := DataW.trod_array ht hf
  obtain ⟨l⟩ := cs
  refine ⟨l, rfl, by simpa using hsz, fun x hxm => ?_⟩
  obtain ⟨i, hi, rfl⟩ := List.getElem_of_mem hxm
  have hlen : l.length = len := by simpa using hsz
  have hi' : i < len := by omega
  have := hx i hi'
  rw [hc, Nat.mul_one] at this
  refine ⟨m, xs[i]'(by omega), ?_⟩
  rw [List.getElem?_eq_getElem (by omega)] at this
  rw [← this]
  congr 1
  show [l[i]] = (l.drop i).take 1
  rw [List.drop_eq_getElem_cons hi]
  rfl

theorem open_array_ints {base0 : Nat} {r : Reach} {t e : TypeId} {len : Nat} {k : IntKind} {v : Value} {d : DataW H} {ps : List MemPlace} (ht : P.underlying t = some (.array len e)) (he : P.underlying e = some (.int k)) (hc : P.cellsOf e = 1) (hct : P.cellsOf t = len)
    (hval : Value.okWide P W r base0 t v) (hd : DataW.Trod enc P W 0 (fun _ => true) true t v d ps) :
    ∃ zs : List Int, v = .agg (zs.map (Value.int k)).toArray ∧ zs.length = len ∧ ∀ n ∈ zs, (Lit.int k n).wf = true := by
  obtain ⟨vs, rfl, hl, h2⟩ := open_array ht hc hct hval hd
  obtain ⟨l, rfl, hw⟩ := list_of_all (f := Value.int k) (p := fun n => (Lit.int k n).wf = true) (fun x hx => by
    obtain ⟨n, y, h⟩ := h2 x hx
    exact cell_int he h)
  exact ⟨l, rfl, by simpa using hl, hw⟩
end

theorem law_own : ownKnob Try.prog.godebug = none := by kernel_rfl
theorem law_laid : laidOutB Try.prog = true := by kernel_rfl

end Go.Proofs.Ytelenldabjmjbaa

/- Arguments that are numbers of 32 bytes, bytes, bools, opened. Each theorem names its own conditions. -/
namespace Go.Proofs.Ytelenldabjmjbaa
open Go.ChangeShapes Go.WideShapes Go.ChangeAt Go.RowKit
set_option linter.unusedVariables false

section
variable {H : Type} {enc : TypeId × Value → H} {P : Program} {W : World}

theorem byte_of {b : Int} (h : (Lit.int .u8 b).wf = true) : ∃ n : UInt8, b = (n.toNat : Int) := by
  have hb : 0 ≤ b ∧ b ≤ 255 := by simpa [Lit.wf, IntKind.min, IntKind.max, IntKind.signed, IntKind.bits] using h
  refine ⟨UInt8.ofNat b.toNat, ?_⟩
  rw [UInt8.toNat_ofNat']
  omega
theorem bytes_of_ints : ∀ {zs : List Int}, (∀ n ∈ zs, (Lit.int .u8 n).wf = true) → ∃ l : List UInt8, zs.map (Value.int .u8) = l.map bval
  | [], _ => ⟨[], rfl⟩
  | z :: r, h => by
    obtain ⟨n, hn⟩ := byte_of (h z (List.mem_cons_self ..))
    obtain ⟨l, hl⟩ := bytes_of_ints (zs := r) (fun x hx => h x (List.mem_cons_of_mem _ hx))
    exact ⟨n :: l, by simp only [List.map_cons, hl, hn]; rfl⟩
/-- A number of 32 bytes. -/
theorem open_num {base0 : Nat} {r : Reach} {t e : TypeId} {v : Value} {d : DataW H} {ps : List MemPlace} (ht : P.underlying t = some (.array 32 e)) (he : P.underlying e = some (.int .u8)) (hc : P.cellsOf e = 1) (hct : P.cellsOf t = 32)
    (hval : Value.okWide P W r base0 t v) (hd : DataW.Trod enc P W 0 (fun _ => true) true t v d ps) : ∃ l : List UInt8, v = .agg (l.map bval).toArray ∧ l.length = 32 := by
  obtain ⟨zs, rfl, hl, hw⟩ := open_array_ints ht he hc hct hval hd
  obtain ⟨l, e⟩ := bytes_of_ints hw
  refine ⟨l, by rw [e], ?_⟩
  have := congrArg List.length e
  simpa [hl] using this.symm
/-- Bytes in an array of whatever length. -/
theorem open_numN {base0 : Nat} {r : Reach} {n : Nat} {t e : TypeId} {v : Value} {d : DataW H} {ps : List MemPlace} (ht : P.underlying t = some (.array n e)) (he : P.underlying e = some (.int .u8)) (hc : P.cellsOf e = 1) (hct : P.cellsOf t = n)
    (hval : Value.okWide P W r base0 t v) (hd : DataW.Trod enc P W 0 (fun _ => true) true t v d ps) : ∃ l : List UInt8, v = .agg (l.map bval).toArray ∧ l.length = n := by
  obtain ⟨zs, rfl, hl, hw⟩ := open_array_ints ht he hc hct hval hd
  obtain ⟨l, e⟩ := bytes_of_ints hw
  refine ⟨l, by rw [e], ?_⟩
  have := congrArg List.length e
  simpa [hl] using this.symm
theorem i64_both {n : Int} (h : (Lit.int .i64 n).wf = true) : -9223372036854775808 ≤ n ∧ n ≤ 9223372036854775807 := by simpa [Lit.wf, IntKind.min, IntKind.max, IntKind.signed, IntKind.bits] using h
theorem i64_lo {n : Int} (h : (Lit.int .i64 n).wf = true) : -9223372036854775808 ≤ n := (i64_both h).1
theorem i64_hi {n : Int} (h : (Lit.int .i64 n).wf = true) : n ≤ 9223372036854775807 := (i64_both h).2
/-- A byte. -/
theorem open_byte {base0 : Nat} {r : Reach} {t : TypeId} {v : Value} {d : DataW H} {ps : List MemPlace} (ht : P.underlying t = some (.int .u8))
    (hval : Value.okWide P W r base0 t v) (hd : DataW.Trod enc P W 0 (fun _ => true) true t v d ps) : ∃ n : UInt8, v = .int .u8 (n.toNat : Int) := by
  obtain ⟨z, rfl, _, _, hw⟩ := open_int ht hval hd
  obtain ⟨n, rfl⟩ := byte_of hw
  exact ⟨n, rfl⟩
end

end Go.Proofs.Ytelenldabjmjbaa

/- Arrays of one-cell elements in memory: a block known whole is loaded and stored whole, and answered as a call's result. Nothing here speaks of a program. Each theorem names its own conditions. -/
namespace Go.Proofs.Ytelenldabjmjbaa
open Go.RowKit
set_option linter.unusedVariables false

section
variable {P : Program} {w w' : World}

/-- vs laid over cs from o on. -/
def laid : List Value → Nat → List Value → List Value
  | cs, _, [] => cs
  | cs, o, v :: r => laid (cs.set o v) (o + 1) r
theorem laid_length : ∀ (vs cs : List Value) (o : Nat), (laid cs o vs).length = cs.length
  | [], _, _ => rfl
  | v :: r, cs, o => by rw [laid, laid_length r]; simp
theorem laid_get : ∀ (vs cs : List Value) (o : Nat), o + vs.length ≤ cs.length → ∀ i, (laid cs o vs)[i]? = if o ≤ i ∧ i < o + vs.length then vs[i - o]? else cs[i]?
  | [], cs, o, h, i => by simp [laid]; omega
  | v :: r, cs, o, h, i => by
    rw [List.length_cons] at h
    rw [laid, laid_get r _ _ (by simp; omega)]
    by_cases h1 : i = o
    · subst h1
      rw [if_neg (by omega), if_pos (by simp), List.getElem?_set_self (by omega)]
      simp
    · by_cases h2 : o + 1 ≤ i ∧ i < o + 1 + r.length
      · rw [if_pos h2, if_pos (by rw [List.length_cons]; omega), show i - o = (i - (o + 1)) + 1 from by omega]
        simp
      · rw [if_neg h2, if_neg (by rw [List.length_cons]; omega), List.getElem?_set_ne (by omega)]
theorem laid_all (cs vs : List Value) (h : vs.length = cs.length) : laid cs 0 vs = vs := by
  apply List.ext_getElem?
  intro i
  rw [laid_get _ _ _ (by omega)]
  by_cases hi : i < vs.length
  · rw [if_pos (by omega)]
    simp
  · rw [if_neg (by omega), List.getElem?_eq_none (by omega), List.getElem?_eq_none (by omega)]

theorem Blk.setCells {c : Nat} {t : TypeId} : ∀ (vs : List Value) (cs : List Value) (o : Nat) (w : World), Blk w c cs t → Blk (w.setCells c o vs) c (laid cs o vs) t
  | [], _, _, _, h => h
  | v :: r, cs, o, w, h => Blk.setCells r (cs.set o v) (o + 1) _ (h.set o v)
theorem grownBy_setCells {c : Nat} : ∀ (vs : List Value) (o : Nat) (a b : World), a.grownBy b (some c) → a.grownBy (b.setCells c o vs) (some c)
  | [], _, _, _, h => h
  | v :: r, o, a, b, h => grownBy_setCells r (o + 1) a _ (grownBy_set h o v)

theorem Blk.there {c : Nat} {cs : List Value} {t : TypeId} (h : Blk w c cs t) (n : Nat) (hn : n ≤ cs.length) : w.there c 0 n := fun j hj => by
  rw [Nat.zero_add]
  refine ⟨?_, h.free j⟩
  rw [h.cell j, List.getElem?_eq_getElem (by omega)]
  rfl
theorem Blk.range {c : Nat} {cs : List Value} {t : TypeId} (h : Blk w c cs t) : w.rangeAt c 0 cs := fun j v hv => by
  rw [Nat.zero_add, h.cell j, hv]

/-- A whole array is loaded. -/
theorem wpList_load_blk {ops : Array Oper} {rest : List Oper} {o : Oper} {a : Act} {Q : Exit → Act → World → Prop} (hgd : o.guard = none) (ty : TypeId) (x : Operand) (ho : o.op = .load ty x)
    (c : Nat) (hx : a.eval x = .pointer (some ⟨c, 0, none⟩)) (t : TypeId) (cs : List Value) (n : Nat) (e : TypeId) (hb : Blk w c cs t)
    (hu : P.underlying ty = some (.array n e)) (hi : (P.info? ty).map (·.size) = some cs.length)
    (h : wpList P ops Q rest (a.put o.dst (.agg cs.toArray)) w) : wpList P ops Q (o :: rest) a w :=
  wpList_load_mid hgd ty x ho c 0 hx cs _ hb.range hu rfl hi h

/-- A whole array is stored. -/
theorem wpList_store_blk {ops : Array Oper} {rest : List Oper} {o : Oper} {a : Act} {Q : Exit → Act → World → Prop} (hgd : o.guard = none) (ty : TypeId) (x y : Operand) (ho : o.op = .store ty x y)
    (c : Nat) (vs : List Value) (hx : a.eval x = .pointer (some ⟨c, 0, none⟩)) (hy : a.eval y = .agg vs.toArray)
    (t : TypeId) (cs : List Value) (hb : Blk w c cs t) (hl : vs.length = cs.length) (hi : (P.info? ty).map (·.size) = some vs.length) (h1 : ∀ v ∈ vs, v.oneCell' = true)
    (h : ∀ w', Blk w' c vs t → w.grownBy w' (some c) → wpList P ops Q rest (a.put o.dst undef) w') : wpList P ops Q (o :: rest) a w :=
  wpList_store_mid hgd ty x y ho c 0 vs.toArray hx hy (by simpa using hb.there vs.length (by omega)) (by simpa using hi) (all_oneCell_toArray h1)
    (h _ (by simpa [laid_all cs vs hl] using Blk.setCells vs cs 0 w hb) (grownBy_setCells _ 0 w w (grownBy_refl w _)))

/-- The same, as an operation. -/
theorem wp_store_blk {o : Oper} {a : Act} {K : Act → World → Prop} {Q : Exit → Act → World → Prop} (ty : TypeId) (x y : Operand) (ho : o.op = .store ty x y)
    (c : Nat) (vs : List Value) (hx : a.eval x = .pointer (some ⟨c, 0, none⟩)) (hy : a.eval y = .agg vs.toArray)
    (t : TypeId) (cs : List Value) (hb : Blk w c cs t) (hl : vs.length = cs.length) (hi : (P.info? ty).map (·.size) = some vs.length) (h1 : ∀ v ∈ vs, v.oneCell' = true)
    (h : ∀ w', Blk w' c vs t → w.grownBy w' (some c) → K (a.put o.dst undef) w') : o.wp P a w K Q :=
  wp_store_mid ty x y ho c 0 vs.toArray hx hy (by simpa using hb.there vs.length (by omega)) (by simpa using hi) (all_oneCell_toArray h1)
    (h _ (by simpa [laid_all cs vs hl] using Blk.setCells vs cs 0 w hb) (grownBy_setCells _ 0 w w (grownBy_refl w _)))

theorem Blk.below {c : Nat} {cs : List Value} {t : TypeId} (h : Blk w c cs t) (hb : Below w.heap.size w w') : Blk w' c cs t := h.same (hb.block _ h.lt)

/-- The result that lies in a cell: the whole array. -/
theorem result_blk {fn : Func} {p : Tmp} {ty : TypeId} (h : fn.results = #[.cell p ty]) (tmps : Array Value) (c : Nat) (t : TypeId) (cs : List Value) (n : Nat) (e : TypeId)
    (hp : tmps.getD p undef = .pointer (some ⟨c, 0, none⟩)) (hb : Blk w c cs t) (hu : P.underlying ty = some (.array n e)) (hi : (P.info? ty).map (·.size) = some cs.length) :
    (results fn tmps).run P w = .ok (.agg cs.toArray) w :=
  results_cell_row h tmps w c t cs.toArray (0, 0) _ hp hb hu rfl (by simpa using hi)

/-- A block, where another one is written. -/
theorem Blk.far {c : Nat} {cs : List Value} {t : TypeId} {a : Addr} (h : Blk w c cs t) (ha : a.block ≠ c) (v : Value) : Blk (w.setCell a v) c cs t :=
  h.same (heap_setCell_other w a c v (fun e => ha e.symm))
theorem Blk.alloc {c : Nat} {cs : List Value} {t : TypeId} (h : Blk w c cs t) (o : Obj) : Blk (w.alloc o) c cs t := h.same (heap_alloc_old w o h.lt)

/-- Blocks that a call lays at its head. -/
theorem boxes2 (w : World) (a b : List Value) (s t : TypeId) : Blk ((w.alloc (.cells a.toArray s)).alloc (.cells b.toArray t)) w.heap.size a s ∧ Blk ((w.alloc (.cells a.toArray s)).alloc (.cells b.toArray t)) (w.heap.size + 1) b t ∧
    Below w.heap.size w ((w.alloc (.cells a.toArray s)).alloc (.cells b.toArray t)) := by
  refine ⟨(Blk.made w a s).alloc _, ?_, ((Below.refl _ _).alloc (Nat.le_refl _) _).alloc (by simp) _⟩
  have := Blk.made (w.alloc (.cells a.toArray s)) b t
  simpa using this
theorem boxes3 (w : World) (a b c : List Value) (s t u : TypeId) : Blk (((w.alloc (.cells a.toArray s)).alloc (.cells b.toArray t)).alloc (.cells c.toArray u)) w.heap.size a s ∧ Blk (((w.alloc (.cells a.toArray s)).alloc (.cells b.toArray t)).alloc (.cells c.toArray u)) (w.heap.size + 1) b t ∧
    Blk (((w.alloc (.cells a.toArray s)).alloc (.cells b.toArray t)).alloc (.cells c.toArray u)) (w.heap.size + 1 + 1) c u ∧ Below w.heap.size w (((w.alloc (.cells a.toArray s)).alloc (.cells b.toArray t)).alloc (.cells c.toArray u)) := by
  obtain ⟨h1, h2, h3⟩ := boxes2 w a b s t
  refine ⟨h1.alloc _, h2.alloc _, ?_, h3.alloc (by simp; omega) _⟩
  have := Blk.made ((w.alloc (.cells a.toArray s)).alloc (.cells b.toArray t)) c u
  simpa using this
theorem boxes4 (w : World) (a b c d : List Value) (s t u v : TypeId) : Blk ((((w.alloc (.cells a.toArray s)).alloc (.cells b.toArray t)).alloc (.cells c.toArray u)).alloc (.cells d.toArray v)) w.heap.size a s ∧ Blk ((((w.alloc (.cells a.toArray s)).alloc (.cells b.toArray t)).alloc (.cells c.toArray u)).alloc (.cells d.toArray v)) (w.heap.size + 1) b t ∧
    Blk ((((w.alloc (.cells a.toArray s)).alloc (.cells b.toArray t)).alloc (.cells c.toArray u)).alloc (.cells d.toArray v)) (w.heap.size + 1 + 1) c u ∧ Blk ((((w.alloc (.cells a.toArray s)).alloc (.cells b.toArray t)).alloc (.cells c.toArray u)).alloc (.cells d.toArray v)) (w.heap.size + 1 + 1 + 1) d v ∧ Below w.heap.size w ((((w.alloc (.cells a.toArray s)).alloc (.cells b.toArray t)).alloc (.cells c.toArray u)).alloc (.cells d.toArray v)) := by
  obtain ⟨h1, h2, h3, h4⟩ := boxes3 w a b c s t u
  refine ⟨h1.alloc _, h2.alloc _, h3.alloc _, ?_, h4.alloc (by simp; omega) _⟩
  have := Blk.made (((w.alloc (.cells a.toArray s)).alloc (.cells b.toArray t)).alloc (.cells c.toArray u)) d v
  simpa using this

/-- The cells of numbers. -/
def ints (k : IntKind) (zs : List Int) : List Value := zs.map (.int k)
theorem ints_one (k : IntKind) (zs : List Int) : ∀ v ∈ ints k zs, v.oneCell' = true := by
  intro u hu
  obtain ⟨z, _, rfl⟩ := List.mem_map.1 hu
  rfl
theorem ints_set (k : IntKind) (zs : List Int) (i : Nat) (z : Int) : (ints k zs).set i (.int k z) = ints k (zs.set i z) := by
  unfold ints
  rw [List.map_set]
theorem ints_get {k : IntKind} {zs : List Int} {i : Nat} (h : i < zs.length) : (ints k zs)[i]? = some (.int k (zs.getD i 0)) := by
  simp [ints, List.getD, h]
theorem ints_length (k : IntKind) (zs : List Int) : (ints k zs).length = zs.length := by simp [ints]
end

end Go.Proofs.Ytelenldabjmjbaa

/- Regions that draw their order, in which values are worked out by reads and by calls that leave all old memory alone, and in which variables are made and written behind: one walk of the text's order serves every order for the first part. Nothing here speaks of a program. Each theorem names its own conditions. -/
namespace Go.Proofs.Ytelenldabjmjbaa
open Go.RowKit
set_option linter.unusedVariables false

/-- w' is w with more behind it: no block of w has turned. -/
def Ext (w w' : World) : Prop := Below w.heap.size w w'
theorem Ext.refl (w : World) : Ext w w := Below.refl _ w
theorem Ext.trans {a b c : World} (h : Ext a b) (g : Ext b c) : Ext a c := Below.trans h (Below.mono g h.size)
theorem Ext.drew (w : World) : Ext w w.drew := (Below.refl _ w).drew
theorem Ext.alloc (w : World) (o : Obj) : Ext w (w.alloc o) := (Below.refl _ w).alloc (Nat.le_refl _) o

section
variable {P : Program} {ops : Array Oper} {Q : Exit → Act → World → Prop} {md : Region.Mode} {t : Nat}

/-- The first t operations have come up. -/
def doneB (t : Nat) (listed : Array Bool) : Bool := (List.range t).all fun k => listed.getD k true

/-- Whatever order is picked from here on, in whatever longer world; as long as one of the first t operations is owed, each one leaves old memory alone. -/
def wpAnyB (P : Program) (md : Region.Mode) (ops : Array Oper) (Q : Exit → Act → World → Prop) (t : Nat) : Nat → Array Bool → Act → World → Prop
  | 0, listed, a, w => ∀ w', Ext w w' → wpAny P md ops Q 0 listed a w'
  | fuel + 1, listed, a, w =>
    (doneB t listed = true → ∀ w', Ext w w' → wpAny P md ops Q (fuel + 1) listed a w') ∧
    (doneB t listed = false → ∀ w', Ext w w' → Region.ready md ops listed ≠ [] ∧
      ∀ i ∈ Region.ready md ops listed, wpOp P ops Q i (fun a' w'' => Ext w' w'' ∧ wpAnyB P md ops Q t fuel (listed.setIfInBounds i true) a' w'') a w')

theorem wpAnyB_up : ∀ {fuel : Nat} {listed : Array Bool} {a : Act} {w w' : World}, Ext w w' → wpAnyB P md ops Q t fuel listed a w → wpAnyB P md ops Q t fuel listed a w'
  | 0, _, _, _, _, hw, h => fun w2 h2 => h w2 (hw.trans h2)
  | _ + 1, _, _, _, _, hw, h => ⟨fun hd w2 h2 => h.1 hd w2 (hw.trans h2), fun hd w2 h2 => h.2 hd w2 (hw.trans h2)⟩

theorem wpAny_of_B : ∀ (fuel : Nat) {listed : Array Bool} {a : Act} {w : World}, wpAnyB P md ops Q t fuel listed a w → wpAny P md ops Q fuel listed a w
  | 0, _, _, w, h => h w (Ext.refl w)
  | fuel + 1, listed, _, w, h => by
    cases hd : doneB t listed with
    | true => exact h.1 hd w (Ext.refl w)
    | false =>
      obtain ⟨h1, h2⟩ := h.2 hd w (Ext.refl w)
      exact ⟨fun h0 => absurd h0 h1, fun i hi => wpOp_mono (fun a' w' h' => wpAny_of_B fuel h'.2) (h2 i hi)⟩

/-- In this state, in every world of the class, the operation leaves v in its temporary, and old memory alone. -/
def YieldsB (P : Program) (ops : Array Oper) (C : World → Prop) (o : Oper) (v : Value) (a : Act) : Prop :=
  (Region.wanted o (yielded ops a.tmps) = true ∧ ∀ w, C w → o.quietAt P a (Ext w) w v) ∨ (Region.wanted o (yielded ops a.tmps) = false ∧ v = undef)

variable {C : World → Prop}

theorem YieldsB.of_same {o : Oper} {v : Value} {a a' : Act} (hy : YieldsB P ops C o v a) (he : execOp a'.eval o = execOp a.eval o)
    (hw : Region.wanted o (yielded ops a'.tmps) = Region.wanted o (yielded ops a.tmps)) : YieldsB P ops C o v a' := by
  rcases hy with ⟨h1, h2⟩ | ⟨h1, h2⟩
  · exact Or.inl ⟨hw.trans h1, fun w hc => by have := h2 w hc; unfold Oper.quietAt at *; rwa [he]⟩
  · exact Or.inr ⟨hw.trans h1, h2⟩

theorem YieldsB.wpOp {i : Nat} {o : Oper} {v : Value} {a : Act} (hi : ops[i]? = some o) (hy : YieldsB P ops C o v a) {K : Act → World → Prop} {w : World} (hC : C w)
    (h : ∀ w', Ext w w' → K (a.put o.dst v) w') : wpOp P ops Q i K a w := by
  unfold Go.wpOp
  simp only [hi]
  rcases hy with ⟨hw, hv⟩ | ⟨hw, rfl⟩
  · rw [if_pos hw]
    left
    have h3 := hv w hC
    unfold Oper.quietAt at h3
    unfold Oper.wp
    generalize (execOp a.eval o).run P w = r at *
    cases r with
    | halt x w' => exact h3.elim
    | ok n w' =>
      cases n <;> simp only [Oper.quietUpon] at h3 <;> simp only [Oper.upon]
      case value u =>
        obtain ⟨e1, e2⟩ := h3
        rw [e1, e2]
        exact h _ (Ext.refl _)
      case skip =>
        obtain ⟨e1, e2⟩ := h3
        rw [e1, ← e2]
        exact h _ (Ext.refl _)
      case enter f args =>
        obtain ⟨e1, hc⟩ := h3
        rw [e1]
        exact hc.mono fun e w'' ⟨he, hw''⟩ => by subst he; exact h _ hw''
  · rw [if_neg (by simp [hw])]
    exact h _ (Ext.refl _)

/-- What an operation's own put does not touch is kept over it. -/
theorem wpOp_keep {j : Nat} {oj : Oper} {Y : Act → Prop} {K : Act → World → Prop} {a : Act} {w : World} (hj : ops[j]? = some oj) (hput : ∀ u, Y (a.put oj.dst u))
    (hdef : ∀ d, Y ({ a with defers := d :: a.defers }.put oj.dst undef)) (h : wpOp P ops Q j K a w) : wpOp P ops Q j (fun a' w' => Y a' ∧ K a' w') a w := by
  unfold wpOp at *
  simp only [hj] at *
  split
  · rename_i hw
    simp only [hw, if_true] at h
    rcases h with h | h
    · left
      unfold Oper.wp at *
      generalize (execOp a.eval oj).run P w = r at *
      cases r with
      | halt x w' => cases x <;> simp only [Oper.upon] at h ⊢ <;> exact h
      | ok n w' =>
        cases n <;> simp only [Oper.upon] at h ⊢
        case value u => exact ⟨hput u, h⟩
        case skip => exact ⟨hput _, h⟩
        case defer d => exact ⟨hdef d, h⟩
        case enter f args =>
          refine Calls.mono h fun e w'' he => ?_
          cases e with
          | returned u => exact ⟨hput u, he⟩
          | panicked c => exact he
          | outgrown => exact he
        case row r args2 => exact Rows.mono h fun u w'' he => ⟨hput u, he⟩
    · exact Or.inr h
  · rename_i hw
    simp only [hw] at h
    exact ⟨hput _, h⟩

/-- One operation that leaves old memory alone may be taken first. -/
theorem wpAnyB_first {i : Nat} {oi : Oper} {v : Value} (hi : ops[i]? = some oi) (hit : i < t) (hsel : ∀ (j : Nat) (o : Oper) cs b, ops[j]? = some o → o.op ≠ .select cs b)
    (hQ : ∀ d v c a w, Q (.panic c) (Act.put a d v) w → Q (.panic c) a w) (cl : Array Bool) (hsz : cl.size = ops.size) (hcl : ∀ j ∈ Region.ready md ops cl, j = i) (htail : ∀ k, t ≤ k → cl.getD k false = false) :
    ∀ (fuel : Nat) (listed : Array Bool) (a : Act) (w : World),
      (∀ j oj, ops[j]? = some oj → j ≠ i → listed.getD j true = false → (∀ e ∈ oj.after, Region.binds md e = true → e.on ≠ i) → oi.apart ops oj = true) →
      i ∈ Region.ready md ops listed → (∀ k, listed.getD k false = true → cl.getD k false = true) → YieldsB P ops C oi v a → (∀ w', Ext w w' → C w') →
      wpAnyB P md ops Q t fuel (listed.setIfInBounds i true) (a.put oi.dst v) w → wpAnyB P md ops Q t (fuel + 1) listed a w := by
  intro fuel
  induction fuel with
  | zero =>
    intro listed a w hfree hr hsub hy hC H
    have hun := (mem_ready.1 hr).1
    have hnd : doneB t listed = false := by
      unfold doneB
      rw [List.all_eq_false]
      exact ⟨i, List.mem_range.2 hit, by rw [hun]; simp⟩
    refine ⟨fun h => (by rw [hnd] at h; cases h), fun _ w' hw' => ⟨List.ne_nil_of_mem hr, fun j hj => ?_⟩⟩
    by_cases hji : j = i
    · subst hji
      exact hy.wpOp hi (hC w' hw') (fun w'' h'' => ⟨h'', wpAnyB_up (hw'.trans h'') H⟩)
    · have h0 := (H w' hw').1
      have := ready_mono hj hji
      rw [h0] at this
      cases this
  | succ fuel ih =>
    intro listed a w hfree hr hsub hy hC H
    have hun := (mem_ready.1 hr).1
    have hnd : doneB t listed = false := by
      unfold doneB
      rw [List.all_eq_false]
      exact ⟨i, List.mem_range.2 hit, by rw [hun]; simp⟩
    refine ⟨fun h => (by rw [hnd] at h; cases h), fun _ w' hw' => ⟨List.ne_nil_of_mem hr, fun j hj => ?_⟩⟩
    by_cases hji : j = i
    · subst hji
      exact hy.wpOp hi (hC w' hw') (fun w'' h'' => ⟨h'', wpAnyB_up (hw'.trans h'') H⟩)
    · obtain ⟨hjun, oj, hoj, hall⟩ := mem_ready.1 hj
      have hjlt : j < ops.size := (Array.getElem?_eq_some_iff.1 hoj).1
      have hjcl : cl.getD j false = true := by
        cases hc : cl.getD j false with
        | true => rfl
        | false =>
          refine absurd (hcl j (mem_ready.2 ⟨?_, oj, hoj, fun e he hb => hsub _ (hall e he hb)⟩)) hji
          have hjs : j < cl.size := by omega
          simpa [Array.getD, hjs] using hc
      have hjt : j < t := by
        rcases Nat.lt_or_ge j t with h | h
        · exact h
        · rw [htail j h] at hjcl; cases hjcl
      cases hd : doneB t (listed.setIfInBounds i true) with
      | true =>
        unfold doneB at hd
        have := (List.all_eq_true.1 hd) j (List.mem_range.2 hjt)
        rw [getD_set_ne true (Ne.symm hji), hjun] at this
        cases this
      | false =>
        have h1 := ((H.2 hd) w' hw').2 j (ready_mono hj hji)
        have hnot : ∀ e ∈ oj.after, Region.binds md e = true → e.on ≠ i := fun e he hb heq => by
          have h2 := hall e he hb
          rw [heq] at h2
          rcases Nat.lt_or_ge i listed.size with h' | h'
          · simp [h'] at hun h2; rw [hun] at h2; cases h2
          · simp [Array.getElem?_eq_none h'] at h2
        have hap := hfree j oj hoj hji hjun hnot
        obtain ⟨a1, a2, a3⟩ := Oper.apart_spec hap
        have hyf : YieldsIf P ops (fun _ => False) oi v a := hy.imp (fun h => ⟨h.1, fun _ h => h.elim⟩) id
        have h2 := wpOp_putIf hoj hap (fun cs b => hsel i oi cs b hi) (fun cs b => hsel j oj cs b hoj) (fun c a w h => hQ _ _ c a w h) hyf h1
        have keep : ∀ u, YieldsB P ops C oi v (a.put oj.dst u) := fun u => hy.of_same (execOp_put oi (fun cs b => hsel i oi cs b hi) a oj.dst u a3) (wanted_put oi a oj.dst u a3)
        have keepD : ∀ d, YieldsB P ops C oi v ({ a with defers := d :: a.defers }.put oj.dst undef) := fun d =>
          (hy.of_same (a' := { a with defers := d :: a.defers }) rfl rfl).of_same (execOp_put oi (fun cs b => hsel i oi cs b hi) _ oj.dst undef a3) (wanted_put oi _ oj.dst undef a3)
        have h3 := wpOp_keep (Y := YieldsB P ops C oi v) hoj keep keepD h2
        refine wpOp_mono (fun a' w'' h4 => ⟨h4.2.2.1, ih (listed.setIfInBounds j true) a' w'' ?_ (ready_mono hr (Ne.symm hji)) ?_ h4.1 (fun w3 h5 => hC w3 ((hw'.trans h4.2.2.1).trans h5)) ?_⟩) h3
        · intro k ok hk hki hkun hkno
          refine hfree k ok hk hki ?_ hkno
          by_cases hjk : j = k
          · subst hjk; exact hjun
          · rwa [getD_set_ne true hjk] at hkun
        · intro k hk
          by_cases hjk : j = k
          · subst hjk; exact hjcl
          · rw [getD_set_ne false hjk] at hk
            exact hsub k hk
        · rw [Array.setIfInBounds_comm _ _ hji]
          exact h4.2.2.2

/-- All that may come up while number i is owed, from what is listed on, in one pass. -/
def closeB (md : Region.Mode) (ops : Array Oper) (i : Nat) (listed : Array Bool) : Array Bool :=
  (List.range ops.size).foldl (fun c j => if j == i || c.getD j true then c else if ((ops[j]?).map (·.after.all fun e => !Region.binds md e || c.getD e.on false)).getD false then c.setIfInBounds j true else c) listed

/-- What is asked of a region, for taking its operations k, k + 1, .. first. -/
def detB (md : Region.Mode) (ops : Array Oper) (t : Nat) : Nat → Nat → Array Bool → Bool
  | 0, _, _ => true
  | d + 1, k, listed =>
    let cl := closeB md ops k listed
    (Region.ready md ops listed).contains k && Region.free md ops listed k && Nat.blt k t && (cl.size == ops.size) && (Region.ready md ops cl).all (· == k) && (List.range cl.size).all (fun j => Nat.blt j t || !cl.getD j false) && (List.range listed.size).all (fun j => !listed.getD j false || cl.getD j false) &&
      detB md ops t d (k + 1) (listed.setIfInBounds k true)

/-- The first part, in the text's order. -/
def wpDet (P : Program) (ops : Array Oper) (C : World → Prop) (Q : Act → Prop) : List Oper → Act → Prop
  | [], a => Q a
  | o :: rest, a => (Region.wanted o (yielded ops a.tmps) = true → ∃ v, (∀ w, C w → o.quietAt P a (Ext w) w v) ∧ wpDet P ops C Q rest (a.put o.dst v)) ∧ (Region.wanted o (yielded ops a.tmps) = false → wpDet P ops C Q rest (a.put o.dst undef))

/-- What is listed behind it. -/
def listN : Nat → Nat → Array Bool → Array Bool
  | 0, _, l => l
  | d + 1, k, l => listN d (k + 1) (l.setIfInBounds k true)

theorem wpAnyB_lex (hs : Region.noSelect ops = true) (hQ : ∀ d v c a w, Q (.panic c) (Act.put a d v) w → Q (.panic c) a w) (m : Nat) : ∀ (l : List Oper) (k : Nat) (listed : Array Bool) (a : Act) (w : World), (∀ j, j < l.length → l[j]? = ops[k + j]?) →
    detB md ops t l.length k listed = true → (∀ w', Ext w w' → C w') → wpDet P ops C (fun a' => wpAnyB P md ops Q t m (listN l.length k listed) a' w) l a → wpAnyB P md ops Q t (l.length + m) listed a w
  | [], _, _, _, _, _, _, _, h => by simpa [wpDet, listN] using h
  | o :: l, k, listed, a, w, hl, hB, hC, h => by
    have h0 : ops[k]? = some o := by simpa using (hl 0 (by simp)).symm
    simp only [List.length_cons, detB, Bool.and_eq_true] at hB
    obtain ⟨⟨⟨⟨⟨⟨⟨b1, b2⟩, b3⟩, b4⟩, b5⟩, b6⟩, b7⟩, b8⟩ := hB
    have hy : ∃ v, YieldsB P ops C o v a ∧ wpDet P ops C (fun a' => wpAnyB P md ops Q t m (listN l.length (k + 1) (listed.setIfInBounds k true)) a' w) l (a.put o.dst v) := by
      cases hw : Region.wanted o (yielded ops a.tmps) with
      | true =>
        obtain ⟨v, h1, h2⟩ := h.1 hw
        exact ⟨v, Or.inl ⟨hw, h1⟩, h2⟩
      | false => exact ⟨undef, Or.inr ⟨hw, rfl⟩, h.2 hw⟩
    obtain ⟨v, hy, hK⟩ := hy
    rw [List.length_cons, Nat.add_right_comm]
    have hcs : (closeB md ops k listed).size = ops.size := by simpa using b4
    refine wpAnyB_first h0 (by simpa using b3) (Region.noSelect_spec hs) hQ (closeB md ops k listed) hcs (fun j hj => by simpa using (List.all_eq_true.1 b5) j hj) (fun j hj => ?_) (l.length + m) listed a w (Region.free_spec h0 b2) (by simpa using b1) (fun j hj => ?_) hy hC
      (wpAnyB_lex hs hQ m l (k + 1) _ _ w (fun j hj => by have := hl (j + 1) (by simp; omega); simpa [Nat.add_assoc, Nat.add_comm 1 j] using this) b8 hC hK)
    · rcases Nat.lt_or_ge j (closeB md ops k listed).size with h' | h'
      · have := (List.all_eq_true.1 b6) j (List.mem_range.2 h')
        simp at this
        rcases this with h2 | h2
        · omega
        · simpa [Array.getD, h'] using h2
      · simp [Array.getD, Nat.not_lt.2 h']
    · rcases Nat.lt_or_ge j listed.size with h' | h'
      · have := (List.all_eq_true.1 b7) j (List.mem_range.2 h')
        simp only [Bool.or_eq_true, Bool.not_eq_true'] at this
        rcases this with h2 | h2
        · rw [hj] at h2; cases h2
        · exact h2
      · simp [Array.getD, Nat.not_lt.2 h'] at hj

/-- THE REGION. -/
theorem wp_region_det {id : Nat} {a : Act} {w : World} (l r : List Oper) (t : Nat) (hm : P.follows .mixedOrders = true) (hs : Region.noSelect (l ++ r).toArray = true)
    (hQ : ∀ d v c a w, Q (.panic c) (Act.put a d v) w → Q (.panic c) a w) (hB : detB .any (l ++ r).toArray t l.length 0 (Array.replicate (l ++ r).length false) = true)
    (h : wpDet P (l ++ r).toArray (Ext w) (fun a' => wpAnyB P .any (l ++ r).toArray Q t r.length (listN l.length 0 (Array.replicate (l ++ r).length false)) a' w.drew) l a) : (Code.region id (l ++ r).toArray true).wp P Q a w := by
  refine wp_region_any hm (wpAny_of_B (t := t) _ ?_)
  have := wpAnyB_lex (C := Ext w) (md := .any) (w := w.drew) hs hQ r.length l 0 (Array.replicate (l ++ r).length false) a (fun j hj => by simp [List.getElem?_append_left hj]) hB (fun w' hw' => (Ext.drew w).trans hw') h
  simpa using this
/-- THE REGION, its operations as they stand; d of them are taken in the text's order, m are left. -/
theorem wp_region_from {id : Nat} {a : Act} {w : World} (d m t : Nat) (hdm : ops.size = d + m) (hm : P.follows .mixedOrders = true) (hs : Region.noSelect ops = true)
    (hQ : ∀ d v c a w, Q (.panic c) (Act.put a d v) w → Q (.panic c) a w) (hB : detB .any ops t d 0 (Array.replicate ops.size false) = true)
    (h : wpDet P ops (Ext w) (fun a' => wpAnyB P .any ops Q t m (listN d 0 (Array.replicate ops.size false)) a' w.drew) (ops.toList.take d) a) : (Code.region id ops true).wp P Q a w := by
  have hl : (ops.toList.take d).length = d := by simp; omega
  refine wp_region_any hm (wpAny_of_B (t := t) _ ?_)
  have := wpAnyB_lex (C := Ext w) (md := .any) (w := w.drew) hs hQ m (ops.toList.take d) 0 (Array.replicate ops.size false) a (fun j hj => by
    rw [hl] at hj
    rw [List.getElem?_take_of_lt hj, Nat.zero_add, Array.getElem?_toList]) (by rw [hl]; exact hB) (fun w' hw' => (Ext.drew w).trans hw') (by rw [hl]; exact h)
  rw [hl] at this
  rw [hdm] at this ⊢
  exact this
end

end Go.Proofs.Ytelenldabjmjbaa

/- Steps and ends of a drawn region's one walk; equality of arrays of bytes. Nothing here speaks of a program. Each theorem names its own conditions. -/
namespace Go.Proofs.Ytelenldabjmjbaa
open Go.RowKit
set_option linter.unusedVariables false

section
variable {P : Program} {ops : Array Oper} {Q : Exit → Act → World → Prop} {md : Region.Mode} {t : Nat} {C : World → Prop} {D : Act → Prop}

theorem det_nil {a : Act} (h : D a) : wpDet P ops C D [] a := h
/-- A value that is had in every world of the class. -/
theorem det_val {o : Oper} {rest : List Oper} {a : Act} (v : Value) (hw : Region.wanted o (yielded ops a.tmps) = true) (h : ∀ w, C w → (execOp a.eval o).run P w = .ok (.value v) w)
    (next : wpDet P ops C D rest (a.put o.dst v)) : wpDet P ops C D (o :: rest) a :=
  ⟨fun _ => ⟨v, fun w hw' => by unfold Oper.quietAt; rw [h w hw']; exact ⟨rfl, rfl⟩, next⟩, fun h' => by rw [hw] at h'; cases h'⟩
/-- An operation that is guarded off. -/
theorem det_skip {o : Oper} {rest : List Oper} {a : Act} (hw : Region.wanted o (yielded ops a.tmps) = false) (next : wpDet P ops C D rest (a.put o.dst undef)) : wpDet P ops C D (o :: rest) a :=
  ⟨fun h' => (by rw [hw] at h'; cases h'), fun _ => next⟩
theorem det_move {o : Oper} {rest : List Oper} {a : Act} (x : Operand) (v : Value) (hw : Region.wanted o (yielded ops a.tmps) = true) (ho : o.op = .move x) (hx : a.eval x = v)
    (next : wpDet P ops C D rest (a.put o.dst v)) : wpDet P ops C D (o :: rest) a :=
  det_val v hw (fun w _ => by unfold execOp; simp only [ho, hx, Sem.run_pure]) next
theorem det_assign {o : Oper} {rest : List Oper} {a : Act} (x : Operand) (v : Value) (hw : Region.wanted o (yielded ops a.tmps) = true) (ho : o.op = .assign x) (hx : a.eval x = v)
    (next : wpDet P ops C D rest (a.put o.dst v)) : wpDet P ops C D (o :: rest) a :=
  det_val v hw (fun w _ => by unfold execOp; simp only [ho, hx, Sem.run_pure]) next
theorem det_pick {o : Oper} {rest : List Oper} {a : Act} (c x y : Operand) (b : Bool) (v : Value) (hw : Region.wanted o (yielded ops a.tmps) = true) (ho : o.op = .pick c x y) (hc : a.eval c = .bool b) (hx : (if b then a.eval x else a.eval y) = v)
    (next : wpDet P ops C D rest (a.put o.dst v)) : wpDet P ops C D (o :: rest) a :=
  det_val v hw (fun w _ => by
    unfold execOp
    cases b <;> simp only [ho, hc, Bool.false_eq_true, if_false, if_true] at hx ⊢ <;> simp [asBool, hx]) next
/-- The load of a whole array. -/
theorem det_load {o : Oper} {rest : List Oper} {a : Act} (ty : TypeId) (x : Operand) (c : Nat) (cs : List Value) (d : TypeDesc) (hw : Region.wanted o (yielded ops a.tmps) = true) (ho : o.op = .load ty x)
    (hx : a.eval x = .pointer (some ⟨c, 0, none⟩)) (hC : ∀ w, C w → w.rangeAt c 0 cs) (hu : P.underlying ty = some d) (hd : d.isRow = true) (hi : (P.info? ty).map (·.size) = some cs.length)
    (next : wpDet P ops C D rest (a.put o.dst (.agg cs.toArray))) : wpDet P ops C D (o :: rest) a := by
  rcases yieldsIf_load_mid (S := C) hw ty x ho c 0 hx cs d hC hu hd hi with ⟨_, h⟩ | ⟨h, _⟩
  · exact det_val _ hw h next
  · rw [hw] at h; cases h
/-- A call that leaves old memory alone. -/
theorem det_call {o : Oper} {rest : List Oper} {a : Act} (f : FuncId) (bs : Array Operand) (ts : Array TypeId) (args : List Value) (v : Value) (hw : Region.wanted o (yielded ops a.tmps) = true)
    (ho : o.op = .call { callee := .value (.func f), args := bs, argTypes := ts }) (hen : ∀ args w, (callFunc f args).run P w = .ok (.enter f args) w) (ha : bs.toList.map a.eval = args)
    (hc : ∀ w, C w → Calls P f args.toArray w fun e w' => e = .returned v ∧ Below w.heap.size w w') (next : wpDet P ops C D rest (a.put o.dst v)) : wpDet P ops C D (o :: rest) a :=
  ⟨fun _ => ⟨v, fun w hw' => by
    have hb : bs.map a.eval = args.toArray := by
      apply Array.ext'
      simpa using ha
    unfold Oper.quietAt execOp
    simp only [ho, resolve, hb, Sem.run_bind]
    simp only [Act.eval, Deferred.ofValue, Sem.run_pure, Result.andThen_ok, invoke, Array.append_empty, Array.empty_append, hen]
    exact ⟨rfl, hc w hw'⟩, next⟩, fun h' => by rw [hw] at h'; cases h'⟩
/-- The load of one cell. -/
theorem det_cell {o : Oper} {rest : List Oper} {a : Act} (ty : TypeId) (x : Operand) (c k : Nat) (v : Value) (hw : Region.wanted o (yielded ops a.tmps) = true) (ho : o.op = .load ty x)
    (hx : a.eval x = .pointer (some ⟨c, k, none⟩)) (hC : ∀ w, C w → w.cell? ⟨c, k, none⟩ = some v) (ha : ∀ w, (isAgg ty).run P w = .ok false w)
    (next : wpDet P ops C D rest (a.put o.dst v)) : wpDet P ops C D (o :: rest) a :=
  det_val v hw (fun w hw' => by
    have hc := hC w hw'
    unfold execOp
    simp [ho, hx, Instr.loadAt, Instr.sureAddr, loadVar, ha, hc]) next
theorem det_mul {o : Oper} {rest : List Oper} {a : Act} (ty rt : TypeId) (x y : Operand) (k : IntKind) (m n r : Int) (hw : Region.wanted o (yielded ops a.tmps) = true) (ho : o.op = .binOp .mul ty x y rt) (hx : a.eval x = .int k m) (hy : a.eval y = .int k n) (hr : k.wrap (m * n) = r)
    (next : wpDet P ops C D rest (a.put o.dst (.int k r))) : wpDet P ops C D (o :: rest) a :=
  det_val _ hw (fun w _ => by unfold execOp; simp [ho, hx, hy, eqGuard, binOp, Op.intArith, hr]) next
theorem det_add {o : Oper} {rest : List Oper} {a : Act} (ty rt : TypeId) (x y : Operand) (k : IntKind) (m n r : Int) (hw : Region.wanted o (yielded ops a.tmps) = true) (ho : o.op = .binOp .add ty x y rt) (hx : a.eval x = .int k m) (hy : a.eval y = .int k n) (hr : k.wrap (m + n) = r)
    (next : wpDet P ops C D rest (a.put o.dst (.int k r))) : wpDet P ops C D (o :: rest) a :=
  det_val _ hw (fun w _ => by unfold execOp; simp [ho, hx, hy, eqGuard, binOp, Op.intArith, hr]) next
theorem det_sub {o : Oper} {rest : List Oper} {a : Act} (ty rt : TypeId) (x y : Operand) (k : IntKind) (m n r : Int) (hw : Region.wanted o (yielded ops a.tmps) = true) (ho : o.op = .binOp .sub ty x y rt) (hx : a.eval x = .int k m) (hy : a.eval y = .int k n) (hr : k.wrap (m - n) = r)
    (next : wpDet P ops C D rest (a.put o.dst (.int k r))) : wpDet P ops C D (o :: rest) a :=
  det_val _ hw (fun w _ => by unfold execOp; simp [ho, hx, hy, eqGuard, binOp, Op.intArith, hr]) next
theorem det_and {o : Oper} {rest : List Oper} {a : Act} (ty rt : TypeId) (x y : Operand) (k : IntKind) (m n r : Int) (hw : Region.wanted o (yielded ops a.tmps) = true) (ho : o.op = .binOp .and ty x y rt) (hx : a.eval x = .int k m) (hy : a.eval y = .int k n) (hr : bits .and k m n = r)
    (next : wpDet P ops C D rest (a.put o.dst (.int k r))) : wpDet P ops C D (o :: rest) a :=
  det_val _ hw (fun w _ => by rw [← hr]; unfold execOp bits; simp [ho, hx, hy, eqGuard, binOp, Op.intBits]) next
theorem det_or {o : Oper} {rest : List Oper} {a : Act} (ty rt : TypeId) (x y : Operand) (k : IntKind) (m n r : Int) (hw : Region.wanted o (yielded ops a.tmps) = true) (ho : o.op = .binOp .or ty x y rt) (hx : a.eval x = .int k m) (hy : a.eval y = .int k n) (hr : bits .or k m n = r)
    (next : wpDet P ops C D rest (a.put o.dst (.int k r))) : wpDet P ops C D (o :: rest) a :=
  det_val _ hw (fun w _ => by rw [← hr]; unfold execOp bits; simp [ho, hx, hy, eqGuard, binOp, Op.intBits]) next
theorem det_xor {o : Oper} {rest : List Oper} {a : Act} (ty rt : TypeId) (x y : Operand) (k : IntKind) (m n r : Int) (hw : Region.wanted o (yielded ops a.tmps) = true) (ho : o.op = .binOp .xor ty x y rt) (hx : a.eval x = .int k m) (hy : a.eval y = .int k n) (hr : bits .xor k m n = r)
    (next : wpDet P ops C D rest (a.put o.dst (.int k r))) : wpDet P ops C D (o :: rest) a :=
  det_val _ hw (fun w _ => by rw [← hr]; unfold execOp bits; simp [ho, hx, hy, eqGuard, binOp, Op.intBits]) next
/-- The address of an array's element, of a struct's field. -/
theorem det_index {o : Oper} {rest : List Oper} {a : Act} (ty e : TypeId) (x y : Operand) (c n : Nat) (j : Nat) (hw : Region.wanted o (yielded ops a.tmps) = true) (ho : o.op = .indexAddr ty x y) (hx : a.eval x = .pointer (some ⟨c, 0, none⟩)) (hy : a.eval y = .int .i64 (j : Int))
    (hu : P.underlying ty = some (.array n e)) (hj : j < n) (hs : ∀ w, (sizeOf e).run P w = .ok 1 w)
    (next : wpDet P ops C D rest (a.put o.dst (.pointer (some ⟨c, j, none⟩)))) : wpDet P ops C D (o :: rest) a :=
  det_val _ hw (fun w _ => by
    have h1 : (0 : Int) ≤ (j : Int) ∧ (j : Int) < (n : Int) := by omega
    unfold execOp
    simp [ho, hx, hy, Instr.indexAt, asIntOf, run_underlying hu, Instr.sureAddr, h1, hs, Addr.add_mid, hj]) next
theorem det_field {o : Oper} {rest : List Oper} {a : Act} (ty : TypeId) (x : Operand) (c f j : Nat) (hw : Region.wanted o (yielded ops a.tmps) = true) (ho : o.op = .fieldAddr ty x f) (hx : a.eval x = .pointer (some ⟨c, 0, none⟩))
    (hr : ∀ w, (Instr.fieldAt ty (.pointer (some ⟨c, 0, none⟩)) f).run P w = .ok (.pointer (some ⟨c, j, none⟩)) w)
    (next : wpDet P ops C D rest (a.put o.dst (.pointer (some ⟨c, j, none⟩)))) : wpDet P ops C D (o :: rest) a :=
  det_val _ hw (fun w _ => by unfold execOp; simp only [ho, hx, Sem.run_bind, hr, Result.andThen_ok, Sem.run_pure]) next

/-! ### Arrays of bytes, held against each other -/
theorem bval_eq {x y : UInt8} : bval x = bval y ↔ x = y := by
  unfold bval
  constructor
  · intro h
    injection h with _ h
    exact UInt8.toNat_inj.1 (by omega)
  · rintro rfl
    rfl
theorem run_eqItems_bytes {e : TypeId} {i : TypeInfo} (he : P.underlying e = some (.int .u8)) (hi : P.info? e = some i) (d : Nat) (xs ys : List UInt8) (w : World) : ∀ is : List Nat, (∀ j ∈ is, j < xs.length ∧ j < ys.length) →
    (Op.eqItems (d + 1) e 1 (xs.map bval).toArray (ys.map bval).toArray is).run P w = .ok (is.all fun j => decide (xs.getD j 0 = ys.getD j 0)) w
  | [], _ => by simp [Op.eqItems]
  | j :: is, h => by
    obtain ⟨g1, g2⟩ := h j (List.mem_cons_self ..)
    have ih := run_eqItems_bytes he hi d xs ys w is (fun k hk => h k (List.mem_cons_of_mem _ hk))
    have p1 : ∀ zs : List UInt8, j < zs.length → (part e (zs.map bval).toArray (j * 1)).run P w = .ok (bval (zs.getD j 0)) w := by
      intro zs hz
      simp [part, isAgg, run_underlying he, hz, List.getD]
    simp only [Op.eqItems, Sem.run_bind, p1 xs g1, p1 ys g2, Result.andThen_ok, Op.equalIn, run_underlying he]
    have hbv : ∀ z : UInt8, bval z = .int .u8 (z.toNat : Int) := fun _ => rfl
    simp only [hbv]
    by_cases hq : xs.getD j 0 = ys.getD j 0
    · simp only [hq, if_true, beq_self_eq_true, Sem.run_pure, Result.andThen_ok, Bool.not_true, Bool.false_eq_true, if_false, ih, List.all_cons, decide_true, Bool.true_and]
    · have hb : (((xs.getD j 0).toNat : Int) == ((ys.getD j 0).toNat : Int)) = false := by
        rw [beq_eq_false_iff_ne]
        intro h'
        exact hq (UInt8.toNat_inj.1 (by omega))
      simp only [if_true, hb, Sem.run_pure, Result.andThen_ok, Bool.not_false, List.all_cons, hq, decide_false, Bool.false_and]

theorem run_equal_bytes {ty e : TypeId} {n : Nat} {i : TypeInfo} (hu : P.underlying ty = some (.array n e)) (he : P.underlying e = some (.int .u8)) (hi : P.info? e = some i) (hc : P.cellsOf e = 1) (xs ys : List UInt8) (hx : xs.length = n) (hy : ys.length = n) (w : World) :
    (Op.equal ty (.agg (xs.map bval).toArray) (.agg (ys.map bval).toArray)).run P w = .ok (decide (xs = ys)) w := by
  have h1 := run_equalIn_array (P := P) w 9999 (xs.map bval).toArray (ys.map bval).toArray hu hi
  rw [hc, run_eqItems_bytes he hi 9998 xs ys w (List.range n) (fun j hj => by have := List.mem_range.1 hj; omega)] at h1
  refine Eq.trans h1 ?_
  congr 1
  rw [Bool.eq_iff_iff, List.all_eq_true, decide_eq_true_iff]
  constructor
  · intro h
    apply List.ext_getElem (by omega)
    intro k hk1 hk2
    have := h k (List.mem_range.2 (by omega))
    simpa [List.getD, hk1, hk2] using this
  · rintro rfl j _
    simp

/-- Two arrays of bytes, held against each other. -/
theorem det_eql {o : Oper} {rest : List Oper} {a : Act} (b : BinOp) (ty rt e : TypeId) (x y : Operand) (n : Nat) (i : TypeInfo) (xs ys : List UInt8) (r : Bool) (hw : Region.wanted o (yielded ops a.tmps) = true) (ho : o.op = .binOp b ty x y rt)
    (hb : b = .eql ∧ decide (xs = ys) = r ∨ b = .neq ∧ decide (xs = ys) = !r)
    (hu : P.underlying ty = some (.array n e)) (he : P.underlying e = some (.int .u8)) (hi : P.info? e = some i) (hc : P.cellsOf e = 1) (hg : P.eqGuardType P.depth ty = false)
    (hx : a.eval x = .agg (xs.map bval).toArray) (hy : a.eval y = .agg (ys.map bval).toArray) (lx : xs.length = n) (ly : ys.length = n)
    (next : wpDet P ops C D rest (a.put o.dst (.bool r))) : wpDet P ops C D (o :: rest) a :=
  det_val _ hw (fun w _ => by
    have h1 := run_equal_bytes hu he hi hc xs ys lx ly w
    rcases hb with ⟨rfl, hb⟩ | ⟨rfl, hb⟩
    · rw [hb] at h1
      unfold execOp
      simp [ho, hx, hy, eqGuard, hg, binOp, h1]
    · rw [hb] at h1
      unfold execOp
      simp [ho, hx, hy, eqGuard, hg, binOp, h1]) next

/-! ### The ends -/
/-- All have come up. -/
theorem end_none {listed : Array Bool} {a : Act} {w : World} (hr : Region.ready md ops listed = []) (h : ∀ w', Ext w w' → Q .normal a w') : wpAnyB P md ops Q t 0 listed a w.drew :=
  fun w' hw' => ⟨hr, h w' ((Ext.drew w).trans hw')⟩
/-- One store is owed. -/
theorem end_store {k : Nat} {o : Oper} {listed : Array Bool} {a : Act} {w : World} (hk : ops[k]? = some o) (hr : Region.ready md ops listed = [k]) (hr2 : Region.ready md ops (listed.setIfInBounds k true) = []) (hd : doneB t listed = true) (hg : o.guard = none)
    (h : ∀ w', Ext w w' → o.wp P a w' (fun a' w'' => Q .normal a' w'') Q) : wpAnyB P md ops Q t 1 listed a w.drew := by
  refine ⟨fun _ w' hw' => ⟨fun h0 => (by rw [hr] at h0; cases h0), fun i hi => ?_⟩, fun h0 => (by rw [hd] at h0; cases h0)⟩
  rw [hr] at hi
  obtain rfl : i = k := by simpa using hi
  unfold wpOp
  simp only [hk, Region.wanted, hg, if_true]
  exact Or.inl (Oper.wp_mono (fun a' w'' h' => ⟨hr2, h'⟩) (h w' ((Ext.drew w).trans hw')))
/-- A variable is to be made, and one store into it. -/
theorem end_alloc {k : Nat} {o1 o2 : Oper} {listed : Array Bool} {a : Act} {w : World} (hk : ops[k]? = some o1) (hk2 : ops[k + 1]? = some o2) (hr : Region.ready md ops listed = [k]) (hr2 : Region.ready md ops (listed.setIfInBounds k true) = [k + 1])
    (hr3 : Region.ready md ops ((listed.setIfInBounds k true).setIfInBounds (k + 1) true) = []) (hd : doneB t listed = false) (hd2 : doneB t (listed.setIfInBounds k true) = true) (hg : o1.guard = none) (hg2 : o2.guard = none)
    (h : ∀ w', Ext w w' → o1.wp P a w' (fun a' w'' => Ext w' w'' ∧ ∀ w3, Ext w'' w3 → o2.wp P a' w3 (fun a'' w4 => Q .normal a'' w4) Q) Q) : wpAnyB P md ops Q t 2 listed a w.drew := by
  refine ⟨fun h0 => (by rw [hd] at h0; cases h0), fun _ w' hw' => ⟨by rw [hr]; simp, fun i hi => ?_⟩⟩
  rw [hr] at hi
  obtain rfl : i = k := by simpa using hi
  unfold wpOp
  simp only [hk, Region.wanted, hg, if_true]
  refine Or.inl (Oper.wp_mono (fun a' w'' h' => ⟨h'.1, ?_⟩) (h w' ((Ext.drew w).trans hw')))
  refine ⟨fun _ w3 hw3 => ⟨fun h0 => (by rw [hr2] at h0; cases h0), fun j hj => ?_⟩, fun h0 => (by rw [hd2] at h0; cases h0)⟩
  rw [hr2] at hj
  obtain rfl : j = i + 1 := by simpa using hj
  unfold wpOp
  simp only [hk2, Region.wanted, hg2, if_true]
  exact Or.inl (Oper.wp_mono (fun a'' w4 h4 => ⟨hr3, h4⟩) (h'.2 w3 hw3))

/-- A whole array is stored into what stands: the region's end. -/
theorem end_set {k : Nat} {o : Oper} {listed : Array Bool} {a : Act} {w : World} (ty tb : TypeId) (x y : Operand) (c : Nat) (vs cs : List Value) (hk : ops[k]? = some o) (hr : Region.ready md ops listed = [k]) (hr2 : Region.ready md ops (listed.setIfInBounds k true) = []) (hd : doneB t listed = true) (hg : o.guard = none)
    (ho : o.op = .store ty x y) (hx : a.eval x = .pointer (some ⟨c, 0, none⟩)) (hy : a.eval y = .agg vs.toArray) (hb : Blk w c cs tb) (hl : vs.length = cs.length) (hi : (P.info? ty).map (·.size) = some vs.length) (h1 : ∀ v ∈ vs, v.oneCell' = true)
    (h : ∀ w', Blk w' c vs tb → w.grownBy w' (some c) → Q .normal (a.put o.dst undef) w') : wpAnyB P md ops Q t 1 listed a w.drew :=
  end_store hk hr hr2 hd hg fun w' hw' => wp_store_blk ty x y ho c vs hx hy tb cs (hb.same (hw'.block _ hb.lt)) hl hi h1 fun w4 hb4 hg4 => h w4 hb4 (grownBy_trans (grown_of_below hw' _) hg4)
/-- A variable is made, and a whole array stored into it: the region's end. -/
theorem end_var {k : Nat} {o1 o2 : Oper} {listed : Array Bool} {a : Act} {w : World} (ty : TypeId) (d : Nat) (y : Operand) (zs vs : List Value) (hk : ops[k]? = some o1) (hk2 : ops[k + 1]? = some o2) (hr : Region.ready md ops listed = [k]) (hr2 : Region.ready md ops (listed.setIfInBounds k true) = [k + 1])
    (hr3 : Region.ready md ops ((listed.setIfInBounds k true).setIfInBounds (k + 1) true) = []) (hd : doneB t listed = false) (hd2 : doneB t (listed.setIfInBounds k true) = true) (hg : o1.guard = none) (hg2 : o2.guard = none)
    (ho : o1.op = .alloc ty) (hdst : o1.dst = some d) (hz : ∀ w, (zeroValue ty).run P w = .ok (.agg zs.toArray) w)
    (ho2 : o2.op = .store ty (.tmp d) y) (hd' : d < a.tmps.size) (hy : ∀ p, (a.put (some d) (.pointer (some ⟨p, 0, none⟩))).eval y = .agg vs.toArray) (hl : vs.length = zs.length) (hi : (P.info? ty).map (·.size) = some vs.length) (h1 : ∀ v ∈ vs, v.oneCell' = true)
    (h : ∀ p w', w.heap.size ≤ p → Blk w' p vs ty → Ext w w' → Q .normal ((a.put (some d) (.pointer (some ⟨p, 0, none⟩))).put o2.dst undef) w') : wpAnyB P md ops Q t 2 listed a w.drew := by
  have hal : ∀ w, (execOp a.eval o1).run P w = .ok (.value (.pointer (some ⟨w.heap.size, 0, none⟩))) (w.alloc (.cells zs.toArray ty)) := fun w => by
    unfold execOp
    simp [ho, Instr.alloc, hz, newVar, newRow, Value.cells]
  refine end_alloc hk hk2 hr hr2 hr3 hd hd2 hg hg2 fun w' hw' => ?_
  unfold Oper.wp
  rw [hal w']
  simp only [Oper.upon, hdst]
  refine ⟨Ext.alloc _ _, fun w3 hw3 => ?_⟩
  have hb : Blk w3 w'.heap.size zs ty := (Blk.made w' zs ty).same (hw3.block _ (Blk.made w' zs ty).lt)
  refine wp_store_blk ty (.tmp d) y ho2 w'.heap.size vs ?_ (hy _) ty zs hb hl hi h1 fun w4 hb4 hg4 => h _ w4 hw'.size hb4 ?_
  · simp [Act.eval, Act.put, Array.getD, hd']
  · exact Below.grown (hw'.trans ((Ext.alloc w' _).trans hw3)) hg4 (hw'.trans ((Ext.alloc w' _).trans hw3)).size (fun r hr => by cases hr; exact hw'.size)
/-- The result that lies in a cell, an array or a struct of one-cell parts. -/
theorem result_row {w : World} {fn : Func} {p : Tmp} {ty : TypeId} (h : fn.results = #[.cell p ty]) (tmps : Array Value) (c : Nat) (tb : TypeId) (cs : List Value) (d : TypeDesc)
    (hp : tmps.getD p undef = .pointer (some ⟨c, 0, none⟩)) (hb : Blk w c cs tb) (hu : P.underlying ty = some d) (hd : d.isRow = true) (hi : (P.info? ty).map (·.size) = some cs.length) :
    (results fn tmps).run P w = .ok (.agg cs.toArray) w :=
  results_cell_row h tmps w c tb cs.toArray (0, 0) d hp hb hu (by cases d <;> simp_all [TypeDesc.isRow]) (by simpa using hi)
theorem ext_blk {w w' : World} {c : Nat} {cs : List Value} {tb : TypeId} (h : Blk w c cs tb) (hb : Ext w w') : Blk w' c cs tb := h.same (hb.block _ h.lt)
theorem ext_range {w w' : World} {c : Nat} {cs : List Value} {tb : TypeId} (h : Blk w c cs tb) (hb : Ext w w') : w'.rangeAt c 0 cs := (ext_blk h hb).range
theorem ext_grown {a b d : World} {c : Nat} (h : Ext a b) (hg : b.grownBy d (some c)) (hc : a.heap.size ≤ c) : Ext a d := Below.grown h hg h.size (fun k hk => by cases hk; exact hc)
end

end Go.Proofs.Ytelenldabjmjbaa

/- Bytes and the numbers that they are, digits to any base, small lemmas on lists and bits. No program. Each theorem names its own conditions. -/
namespace Go.Proofs.Ytelenldabjmjbaa
open Go.RowKit
set_option linter.unusedVariables false
set_option linter.unusedSimpArgs false

theorem getD_set_same {zs : List Int} {i : Nat} {z : Int} (h : i < zs.length) : (zs.set i z).getD i 0 = z := by simp [List.getD, h]
theorem getD_set_far {zs : List Int} {i j : Nat} {z : Int} (h : i ≠ j) : (zs.set i z).getD j 0 = zs.getD j 0 := by simp [List.getD, List.getElem?_set_ne h]
theorem all_of_getD {zs : List Int} {n : Nat} {P : Int → Prop} (hl : zs.length = n) (h : ∀ i, i < n → P (zs.getD i 0)) : ∀ z ∈ zs, P z := by
  intro z hz
  obtain ⟨i, hi, rfl⟩ := List.getElem_of_mem hz
  have := h i (by omega)
  rwa [show zs.getD i 0 = zs[i] from by simp [List.getD, hi]] at this
theorem getD_of_all {zs : List Int} {P : Int → Prop} (h : ∀ z ∈ zs, P z) {i : Nat} (hi : i < zs.length) : P (zs.getD i 0) := by
  rw [show zs.getD i 0 = zs[i] from by simp [List.getD, hi]]
  exact h _ (List.getElem_mem _)
/-- The number that bytes are, the lowest first. -/
def leN : List UInt8 → Nat
  | [] => 0
  | b :: r => b.toNat + 256 * leN r
theorem bytes32 (l : List UInt8) (h : l.length = 32) : l = [l.getD 0 0, l.getD 1 0, l.getD 2 0, l.getD 3 0, l.getD 4 0, l.getD 5 0, l.getD 6 0, l.getD 7 0, l.getD 8 0, l.getD 9 0, l.getD 10 0, l.getD 11 0, l.getD 12 0, l.getD 13 0, l.getD 14 0, l.getD 15 0,
    l.getD 16 0, l.getD 17 0, l.getD 18 0, l.getD 19 0, l.getD 20 0, l.getD 21 0, l.getD 22 0, l.getD 23 0, l.getD 24 0, l.getD 25 0, l.getD 26 0, l.getD 27 0, l.getD 28 0, l.getD 29 0, l.getD 30 0, l.getD 31 0] := by
  match l, h with
  | [_, _, _, _, _, _, _, _, _, _, _, _, _, _, _, _, _, _, _, _, _, _, _, _, _, _, _, _, _, _, _, _], _ => rfl
theorem bval_get {l : List UInt8} {i : Nat} (h : i < l.length) : (l.map bval)[i]? = some (.int .u8 ((l.getD i 0).toNat : Int)) := by
  simp [bval, List.getD, h]
/-- A number's bytes, the lowest first. -/
def bytesN : Nat → Nat → List UInt8
  | 0, _ => []
  | k + 1, n => UInt8.ofNat (n % 256) :: bytesN k (n / 256)
theorem bytesN_leN : ∀ (l : List UInt8), bytesN l.length (leN l) = l
  | [] => rfl
  | b :: r => by
    have hb := b.toNat_lt
    have e1 : (b.toNat + 256 * leN r) % 256 = b.toNat := by omega
    have e2 : (b.toNat + 256 * leN r) / 256 = leN r := by omega
    simp only [leN, List.length_cons, bytesN, e1, e2, bytesN_leN r]
    congr 1
    simp
theorem bytesN_length : ∀ (k n : Nat), (bytesN k n).length = k
  | 0, _ => rfl
  | k + 1, n => by simp [bytesN, bytesN_length k]
theorem leN_bytesN : ∀ (k n : Nat), leN (bytesN k n) = n % 256 ^ k
  | 0, n => by simp [bytesN, leN, Nat.mod_one]
  | k + 1, n => by
    have := leN_bytesN k (n / 256)
    have e1 : (UInt8.ofNat (n % 256)).toNat = n % 256 := by
      rw [UInt8.toNat_ofNat']
      omega
    simp only [bytesN, leN, this, e1, Nat.pow_succ]
    rw [Nat.mul_comm (256 ^ k) 256, Nat.mod_mul]
theorem bytesN_append : ∀ (m n x : Nat), bytesN (m + n) x = bytesN m x ++ bytesN n (x / 256 ^ m)
  | 0, n, x => by simp [bytesN]
  | m + 1, n, x => by
    rw [Nat.add_right_comm]
    simp only [bytesN, List.cons_append]
    rw [bytesN_append m n (x / 256), Nat.div_div_eq_div_mul, Nat.pow_succ, Nat.mul_comm 256]
theorem bytesN_mod : ∀ (m x : Nat), bytesN m (x % 256 ^ m) = bytesN m x
  | 0, _ => rfl
  | m + 1, x => by
    have e1 : x % 256 ^ (m + 1) % 256 = x % 256 := Nat.mod_mod_of_dvd _ ⟨256 ^ m, by rw [Nat.pow_succ, Nat.mul_comm]⟩
    have e2 : x % 256 ^ (m + 1) / 256 = x / 256 % 256 ^ m := by rw [Nat.pow_succ, Nat.mul_comm, Nat.mod_mul_right_div_self]
    simp only [bytesN, e1, e2, bytesN_mod m]
theorem leN_lt : ∀ (l : List UInt8), leN l < 256 ^ l.length
  | [] => by simp [leN]
  | b :: r => by
    have hb := b.toNat_lt
    have := leN_lt r
    simp only [leN, List.length_cons, Nat.pow_succ]
    omega
theorem andU1 (n : Nat) : bits .and .u8 (n : Int) 1 = ((n % 2 : Nat) : Int) := by
  have h : (BitVec.ofInt 8 1).toNat = 2 ^ 1 - 1 := by decide
  have key : (BitVec.ofInt 8 (n : Int) &&& BitVec.ofInt 8 1).toNat = ((n : Int) % ((2 ^ 8 : Nat) : Int)).toNat % 2 ^ 1 := by
    rw [BitVec.toNat_and, BitVec.toNat_ofInt, h, Nat.and_two_pow_sub_one_eq_mod]
  show IntKind.u8.wrap ((BitVec.ofInt 8 (n : Int) &&& BitVec.ofInt 8 1).toNat : Nat) = _
  rw [key, IntKind.wrap_u8]
  omega
/-- A number's bit stands in its byte. -/
theorem leN_bit : ∀ (l : List UInt8) (i : Nat), i < 8 * l.length → leN l / 2 ^ i % 2 = (l.getD (i / 8) 0).toNat / 2 ^ (i % 8) % 2
  | [], i, h => by simp at h
  | b :: r, i, h => by
    rcases Nat.lt_or_ge i 8 with h8 | h8
    · have e1 : i / 8 = 0 := by omega
      have e2 : i % 8 = i := by omega
      rw [e1, e2]
      simp only [leN, List.getD_cons_zero]
      generalize leN r = R
      generalize b.toNat = c
      rcases (by omega : i = 0 ∨ i = 1 ∨ i = 2 ∨ i = 3 ∨ i = 4 ∨ i = 5 ∨ i = 6 ∨ i = 7) with rfl | rfl | rfl | rfl | rfl | rfl | rfl | rfl <;> simp only [Nat.reducePow] <;> omega
    · obtain ⟨j, rfl⟩ : ∃ j, i = 8 + j := ⟨i - 8, by omega⟩
      have hb := b.toNat_lt
      have e1 : (8 + j) / 8 = j / 8 + 1 := by omega
      have e2 : (8 + j) % 8 = j % 8 := by omega
      rw [e1, e2, List.getD_cons_succ, ← leN_bit r j (by rw [List.length_cons] at h; omega), Nat.pow_add, ← Nat.div_div_eq_div_mul]
      congr 2
      simp only [leN]
      omega
theorem w64 {a : Nat} (ha : a < 18446744073709551616) : IntKind.u64.wrap (a : Int) = (a : Int) := by rw [IntKind.wrap_u64]; omega
theorem w64m (a : Nat) : IntKind.u64.wrap (a : Int) = ((a % 18446744073709551616 : Nat) : Int) := by rw [IntKind.wrap_u64]; omega
theorem natDiv (a b : Nat) : (a : Int) / (b : Int) = ((a / b : Nat) : Int) := by simp
theorem natMul (a b : Nat) : (a : Int) * (b : Int) = ((a * b : Nat) : Int) := (Int.natCast_mul a b).symm
theorem natAdd (a b : Nat) : (a : Int) + (b : Int) = ((a + b : Nat) : Int) := (Int.natCast_add a b).symm
theorem or64 (a b : Nat) (ha : a < 18446744073709551616) (hb : b < 18446744073709551616) : bits .or .u64 (a : Int) (b : Int) = ((a ||| b : Nat) : Int) := by
  have e1 : (BitVec.ofInt 64 (a : Int)).toNat = a := by rw [BitVec.toNat_ofInt]; omega
  have e2 : (BitVec.ofInt 64 (b : Int)).toNat = b := by rw [BitVec.toNat_ofInt]; omega
  show IntKind.u64.wrap ((BitVec.ofInt 64 (a : Int) ||| BitVec.ofInt 64 (b : Int)).toNat : Nat) = _
  have e3 := (BitVec.ofInt 64 (a : Int) ||| BitVec.ofInt 64 (b : Int)).isLt
  rw [BitVec.toNat_or, e1, e2] at e3 ⊢
  exact w64 e3
/-- High bits and low bits laid together are their sum. -/
theorem or_sum (k x y : Nat) (hx : x < 2 ^ k) : 2 ^ k * y ||| x = 2 ^ k * y + x := (Nat.two_pow_add_eq_or_of_lt hx y).symm
theorem bl_range {w w' : World} {c : Nat} {cs : List Value} {t : TypeId} (h : Blk w c cs t) (hb : Below w.heap.size w w') : w'.rangeAt c 0 cs := (h.same (hb.block _ h.lt)).range
theorem bl_there {w w' : World} {c : Nat} {cs : List Value} {t : TypeId} (h : Blk w c cs t) (hb : Below w.heap.size w w') : w'.there c 0 cs.length := (h.same (hb.block _ h.lt)).there _ (Nat.le_refl _)
theorem bl_blk {w w' : World} {c : Nat} {cs : List Value} {t : TypeId} (h : Blk w c cs t) (hb : Below w.heap.size w w') : Blk w' c cs t := h.same (hb.block _ h.lt)
/-- A small number's bytes. -/
def smL (n : UInt8) : List UInt8 := n :: List.replicate 31 0
theorem smL_length (n : UInt8) : (smL n).length = 32 := by simp [smL]
theorem leN_zeros : ∀ k, leN (List.replicate k 0) = 0
  | 0 => rfl
  | k + 1 => by rw [List.replicate_succ, leN, leN_zeros k]; rfl
theorem leN_smL (n : UInt8) : leN (smL n) = n.toNat := by
  unfold smL
  rw [leN, leN_zeros]
  omega
def zer : List UInt8 := List.replicate 32 0
theorem zer_length : zer.length = 32 := by simp [zer]
theorem leN_zer : leN zer = 0 := leN_zeros 32
def zero32 : List Value := ints .u8 (List.replicate 32 0)
section
variable {P : Program}
theorem result_row_tmp {w : World} {fn : Func} {p u : Tmp} {ty : TypeId} (h : fn.results = #[.cell p ty, .tmp u]) (tmps : Array Value) (c : Nat) (tb : TypeId) (cs : List Value) (d : TypeDesc)
    (hp : tmps.getD p undef = .pointer (some ⟨c, 0, none⟩)) (hb : Blk w c cs tb) (hu : P.underlying ty = some d) (hd : d.isRow = true) (hi : (P.info? ty).map (·.size) = some cs.length) :
    (results fn tmps).run P w = .ok (.tuple #[.agg cs.toArray, tmps.getD u undef]) w := by
  rw [results_cell_tmp h, hp]
  simp only [asAddr, Sem.run_pure, Result.andThen_ok, run_loadVar_mid w c 0 ty cs d hb.range hu hd hi]
end

end Go.Proofs.Ytelenldabjmjbaa

/- Digits to any base: their number, one digit turned, parts of them, what they are when they are none too great. No program. Each theorem names its own conditions. -/
namespace Go.Proofs.Ytelenldabjmjbaa
open Go.RowKit
set_option linter.unusedVariables false
set_option linter.unusedSimpArgs false

/-- The number that digits to the base B are, the lowest first. -/
def gV (B : Int) : List Int → Int
  | [] => 0
  | z :: r => z + B * gV B r
theorem gV_set (B : Int) : ∀ (zs : List Int) (i : Nat) (z : Int), i < zs.length → gV B (zs.set i z) = gV B zs + (z - zs.getD i 0) * B ^ i
  | [], i, z, h => by simp at h
  | a :: r, 0, z, h => by simp [gV]; omega
  | a :: r, i + 1, z, h => by
    have := gV_set B r i z (by simpa using h)
    simp only [List.set_cons_succ, gV, this, List.getD_cons_succ, Int.pow_succ]
    grind
theorem gV_append (B : Int) : ∀ (a b : List Int), gV B (a ++ b) = gV B a + B ^ a.length * gV B b
  | [], b => by simp [gV]
  | z :: r, b => by
    simp only [List.cons_append, gV, gV_append B r b, List.length_cons, Int.pow_succ]
    grind
theorem gV_cut (B : Int) (zs : List Int) (d : Nat) (h : d ≤ zs.length) : gV B zs = gV B (zs.take d) + B ^ d * gV B (zs.drop d) := by
  have := gV_append B (zs.take d) (zs.drop d)
  rw [List.take_append_drop, List.length_take, Nat.min_eq_left h] at this
  exact this
theorem gV_take_succ (B : Int) (zs : List Int) (k : Nat) (h : k < zs.length) : gV B (zs.take (k + 1)) = gV B (zs.take k) + zs.getD k 0 * B ^ k := by
  rw [List.take_succ_eq_append_getElem h, gV_append, List.length_take, Nat.min_eq_left (by omega)]
  simp only [gV, List.getD, List.getElem?_eq_getElem h, Option.getD_some]
  grind
theorem gV_zeros (B : Int) : ∀ (n : Nat), gV B (List.replicate n 0) = 0
  | 0 => rfl
  | n + 1 => by simp [List.replicate_succ, gV, gV_zeros B n]
theorem gV_zero_of (B : Int) : ∀ {zs : List Int}, (∀ i, zs.getD i 0 = 0) → gV B zs = 0
  | [], _ => rfl
  | z :: r, h => by
    have h0 : z = 0 := h 0
    have h1 := gV_zero_of B (zs := r) (fun i => by have := h (i + 1); simpa using this)
    simp [gV, h0, h1]
theorem gV_range {B : Int} (hB : 0 < B) : ∀ {zs : List Int}, (∀ i, i < zs.length → 0 ≤ zs.getD i 0 ∧ zs.getD i 0 < B) → 0 ≤ gV B zs ∧ gV B zs < B ^ zs.length
  | [], _ => by simp [gV]
  | z :: r, h => by
    have h0 : 0 ≤ z ∧ z < B := h 0 (by simp)
    have h1 := gV_range hB (zs := r) (fun i hi => by have := h (i + 1) (by simpa using hi); simpa using this)
    obtain ⟨p1, p2⟩ := h1
    have q1 : 0 ≤ B * gV B r := Int.mul_nonneg (by omega) p1
    have q2 : B * (gV B r + 1) ≤ B * B ^ r.length := Int.mul_le_mul_of_nonneg_left (by omega) (by omega)
    rw [Int.mul_add, Int.mul_one] at q2
    simp only [gV, List.length_cons, Int.pow_succ]
    rw [Int.mul_comm (B ^ r.length) B]
    omega
theorem gV_inj {B : Int} (hB : 0 < B) : ∀ {xs ys : List Int}, xs.length = ys.length → (∀ i, i < xs.length → 0 ≤ xs.getD i 0 ∧ xs.getD i 0 < B) → (∀ i, i < ys.length → 0 ≤ ys.getD i 0 ∧ ys.getD i 0 < B) → gV B xs = gV B ys → xs = ys
  | [], [], _, _, _, _ => rfl
  | [], _ :: _, h, _, _, _ => by simp at h
  | _ :: _, [], h, _, _, _ => by simp at h
  | x :: r, y :: s, hl, h1, h2, he => by
    have a1 : 0 ≤ x ∧ x < B := h1 0 (by simp)
    have a2 : 0 ≤ y ∧ y < B := h2 0 (by simp)
    simp only [gV] at he
    have e1 : (x + B * gV B r) % B = x := by rw [Int.add_mul_emod_self_left, Int.emod_eq_of_lt a1.1 a1.2]
    have e2 : (y + B * gV B s) % B = y := by rw [Int.add_mul_emod_self_left, Int.emod_eq_of_lt a2.1 a2.2]
    have e3 : x = y := by rw [← e1, ← e2, he]
    subst e3
    have e4 : gV B r = gV B s := Int.eq_of_mul_eq_mul_left (by omega : B ≠ 0) (by omega)
    rw [gV_inj hB (by simpa using hl) (fun i hi => by have := h1 (i + 1) (by simpa using hi); simpa using this) (fun i hi => by have := h2 (i + 1) (by simpa using hi); simpa using this) e4]

theorem getD_eq {zs : List Int} {i : Nat} (h : i < zs.length) : zs.getD i 0 = zs[i] := by simp [List.getD, h]
theorem getD_out {zs : List Int} {i : Nat} (h : zs.length ≤ i) : zs.getD i 0 = 0 := by simp [List.getD, h]
theorem getD_take {zs : List Int} {i d : Nat} (h : i < d) : (zs.take d).getD i 0 = zs.getD i 0 := by simp [List.getD, List.getElem?_take, h]
theorem getD_drop {zs : List Int} {i d : Nat} : (zs.drop d).getD i 0 = zs.getD (d + i) 0 := by simp [List.getD, List.getElem?_drop]
theorem ext_getD {xs ys : List Int} (hl : xs.length = ys.length) (h : ∀ i, i < xs.length → xs.getD i 0 = ys.getD i 0) : xs = ys := by
  apply List.ext_getElem hl
  intro i h1 h2
  have := h i h1
  rwa [getD_eq h1, getD_eq h2] at this
theorem take_eq {xs ys : List Int} {d : Nat} (hl : xs.length = ys.length) (hd : d ≤ xs.length) (h : ∀ i, i < d → xs.getD i 0 = ys.getD i 0) : xs.take d = ys.take d := by
  apply ext_getD (by simp [hl])
  intro i hi
  have hi2 : i < d := by simp at hi; omega
  rw [getD_take hi2, getD_take hi2, h i hi2]
/-- The lowest digits of what is no digit too great: the rest of the number is the upper digits'. -/
theorem gV_div {B : Int} (hB : 0 < B) {zs : List Int} {d : Nat} (hd : d ≤ zs.length) (h : ∀ i, i < d → 0 ≤ zs.getD i 0 ∧ zs.getD i 0 < B) : gV B zs / B ^ d = gV B (zs.drop d) := by
  have hr := gV_range hB (zs := zs.take d) (fun i hi => by
    have hi2 : i < d := by simp at hi; omega
    rw [getD_take hi2]
    exact h i hi2)
  rw [List.length_take, Nat.min_eq_left hd] at hr
  have hp : 0 < B ^ d := Int.pow_pos hB
  rw [gV_cut B zs d hd, Int.add_mul_ediv_left _ _ (by omega), Int.ediv_eq_zero_of_lt hr.1 hr.2, Int.zero_add]

theorem Blk.seti {w : World} {c : Nat} {k : IntKind} {zs : List Int} {t : TypeId} (h : Blk w c (ints k zs) t) (i : Nat) (z : Int) : Blk (w.setCell ⟨c, i, none⟩ (.int k z)) c (ints k (zs.set i z)) t := by
  rw [← ints_set]
  exact h.set i _
/-- The bytes of a number, as digits. -/
def dig (n x : Nat) : List Int := (bytesN n x).map fun b => (b.toNat : Int)
theorem dig_length (n x : Nat) : (dig n x).length = n := by simp [dig, bytesN_length]
theorem gV_bytes : ∀ (l : List UInt8), gV 256 (l.map fun b => (b.toNat : Int)) = (leN l : Nat)
  | [] => rfl
  | b :: r => by
    simp only [List.map_cons, gV, gV_bytes r, leN]
    omega
theorem gV_dig (n x : Nat) : gV 256 (dig n x) = ((x % 256 ^ n : Nat) : Int) := by
  unfold dig
  rw [gV_bytes, leN_bytesN]
theorem byte_digits (l : List UInt8) : ∀ i, i < (l.map fun b => (b.toNat : Int)).length → 0 ≤ (l.map fun b => (b.toNat : Int)).getD i 0 ∧ (l.map fun b => (b.toNat : Int)).getD i 0 < 256 := by
  intro i hi
  have hi2 : i < l.length := by simpa using hi
  rw [getD_eq hi, List.getElem_map]
  have := l[i].toNat_lt
  omega
theorem dig_digits (n x : Nat) : ∀ i, i < n → 0 ≤ (dig n x).getD i 0 ∧ (dig n x).getD i 0 < 256 := by
  intro i hi
  exact byte_digits (bytesN n x) i (by simp [bytesN_length, hi])
/-- Digits that are none too great are those of their number. -/
theorem dig_of {zs : List Int} {n x : Nat} (hl : zs.length = n) (h : ∀ i, i < n → 0 ≤ zs.getD i 0 ∧ zs.getD i 0 < 256) (hv : gV 256 zs = (x : Int)) : zs = dig n x := by
  have hr := gV_range (B := 256) (by omega) (zs := zs) (fun i hi => h i (by omega))
  have hx : x < 256 ^ n := by
    have h1 := hr.2
    rw [hv, hl] at h1
    have e : ((256 : Int) ^ n) = ((256 ^ n : Nat) : Int) := by simp
    rw [e] at h1
    omega
  refine gV_inj (B := 256) (by omega) (by rw [dig_length, hl]) (fun i hi => h i (by omega)) (fun i hi => dig_digits n x i (by rwa [dig_length] at hi)) ?_
  rw [gV_dig, Nat.mod_eq_of_lt hx, hv]

theorem bytesN_getD : ∀ (n x i : Nat), i < n → ((bytesN n x).getD i 0).toNat = x / 256 ^ i % 256
  | 0, _, _, h => by omega
  | n + 1, x, 0, _ => by
    simp only [bytesN, List.getD_cons_zero, Nat.pow_zero, Nat.div_one]
    rw [UInt8.toNat_ofNat']
    omega
  | n + 1, x, i + 1, h => by
    simp only [bytesN, List.getD_cons_succ]
    rw [bytesN_getD n (x / 256) i (by omega), Nat.div_div_eq_div_mul, Nat.pow_succ, Nat.mul_comm 256]

/-- The first k bytes of l, and noughts behind. -/
def fill (n : Nat) (l : List UInt8) (k : Nat) : List UInt8 := l.take k ++ List.replicate (n - k) 0
theorem fill_zero (n : Nat) (l : List UInt8) : fill n l 0 = List.replicate n 0 := by simp [fill]
theorem fill_full {n : Nat} {l : List UInt8} (h : l.length = n) : fill n l n = l := by simp [fill, ← h]
theorem fill_length {n k : Nat} {l : List UInt8} (h : l.length = n) (hk : k ≤ n) : (fill n l k).length = n := by simp [fill]; omega
theorem fill_set {n k : Nat} {l : List UInt8} (h : l.length = n) (hk : k < n) : (fill n l k).set k (l.getD k 0) = fill n l (k + 1) := by
  unfold fill
  have e1 : (l.take k).length = k := by simp; omega
  have e2 : n - k = (n - (k + 1)) + 1 := by omega
  have hk2 : k < l.length := by omega
  have e3 : l.getD k 0 = l[k] := by simp [List.getD, hk2]
  rw [List.set_append_right _ _ (by omega), e1, Nat.sub_self, e2, List.replicate_succ, List.set_cons_zero, e3, List.take_succ_eq_append_getElem hk2, List.append_assoc]
  rfl
theorem fill_set_val {n k : Nat} {l : List UInt8} (h : l.length = n) (hk : k < n) {z : Int} (hz : z = ((l.getD k 0).toNat : Int)) : ((fill n l k).map bval).set k (.int .u8 z) = (fill n l (k + 1)).map bval := by
  subst hz
  have : Value.int .u8 ((l.getD k 0).toNat : Int) = bval (l.getD k 0) := rfl
  rw [this, ← List.map_set, fill_set h hk]
theorem fill_start (n : Nat) (l : List UInt8) : (fill n l 0).map bval = ints .u8 (List.replicate n 0) := by
  rw [fill_zero]
  simp [ints, bval]

theorem or_i64 (a b : Nat) (ha : a < 9223372036854775808) (hb : b < 9223372036854775808) : bits .or .i64 (a : Int) (b : Int) = ((a ||| b : Nat) : Int) := by
  have e1 : (BitVec.ofInt 64 (a : Int)).toNat = a := by rw [BitVec.toNat_ofInt]; omega
  have e2 : (BitVec.ofInt 64 (b : Int)).toNat = b := by rw [BitVec.toNat_ofInt]; omega
  show IntKind.i64.wrap ((BitVec.ofInt 64 (a : Int) ||| BitVec.ofInt 64 (b : Int)).toNat : Nat) = _
  have e3 : a ||| b < 2 ^ 63 := Nat.or_lt_two_pow ha hb
  rw [BitVec.toNat_or, e1, e2, IntKind.wrap_i64]
  omega
theorem and_i64_255 (a : Int) (h1 : -9223372036854775808 ≤ a) (h2 : a ≤ 9223372036854775807) : bits .and .i64 a 255 = a % 256 := by
  have h : (BitVec.ofInt 64 255).toNat = 2 ^ 8 - 1 := by decide
  have key : (BitVec.ofInt 64 a &&& BitVec.ofInt 64 255).toNat = (a % ((2 ^ 64 : Nat) : Int)).toNat % 2 ^ 8 := by
    rw [BitVec.toNat_and, BitVec.toNat_ofInt, h, Nat.and_two_pow_sub_one_eq_mod]
  show IntKind.i64.wrap ((BitVec.ofInt 64 a &&& BitVec.ofInt 64 255).toNat : Nat) = _
  rw [key, IntKind.wrap_i64]
  omega
theorem and_i64_1 (a : Int) (h1 : -9223372036854775808 ≤ a) (h2 : a ≤ 9223372036854775807) : bits .and .i64 a 1 = a % 2 := by
  have h : (BitVec.ofInt 64 1).toNat = 2 ^ 1 - 1 := by decide
  have key : (BitVec.ofInt 64 a &&& BitVec.ofInt 64 1).toNat = (a % ((2 ^ 64 : Nat) : Int)).toNat % 2 ^ 1 := by
    rw [BitVec.toNat_and, BitVec.toNat_ofInt, h, Nat.and_two_pow_sub_one_eq_mod]
  show IntKind.i64.wrap ((BitVec.ofInt 64 a &&& BitVec.ofInt 64 1).toNat : Nat) = _
  rw [key, IntKind.wrap_i64]
  omega

end Go.Proofs.Ytelenldabjmjbaa

/- Numbers modulo 2^130 - 5 by seventeen digits to the base 256, as the document's own has them: carries, a product, the whole number. No program. Each theorem names its own conditions. -/
namespace Go.Proofs.Ytelenldabjmjbaa
open Go.RowKit
set_option linter.unusedVariables false
set_option linter.unusedSimpArgs false

/-- 2^130 - 5. -/
def pQ : Nat := 1361129467683753853853498429727072845819
def two130 : Int := 1361129467683753853853498429727072845824
theorem two130_eq : two130 = (pQ : Int) + 5 := by decide +kernel

/-- One pass of the carry: the digits below i are small, u goes on. -/
def qRun (h : List Int) : Nat → List Int × Int
  | 0 => (h, 0)
  | i + 1 => ((qRun h i).1.set i (((qRun h i).2 + (qRun h i).1.getD i 0) % 256), ((qRun h i).2 + (qRun h i).1.getD i 0) / 256)
theorem qRun_length (h : List Int) : ∀ i, (qRun h i).1.length = h.length
  | 0 => rfl
  | i + 1 => by simp [qRun, qRun_length h i]
theorem qRun_far (h : List Int) : ∀ i j, i ≤ j → (qRun h i).1.getD j 0 = h.getD j 0
  | 0, _, _ => rfl
  | i + 1, j, hj => by
    rw [qRun, getD_set_far (by omega), qRun_far h i j (by omega)]
theorem qRun_small (h : List Int) (hl : h.length = 17) : ∀ i, i ≤ 16 → ∀ j, j < i → 0 ≤ (qRun h i).1.getD j 0 ∧ (qRun h i).1.getD j 0 < 256
  | 0, _, j, hj => by omega
  | i + 1, hi, j, hj => by
    rw [qRun]
    by_cases e : j = i
    · subst e
      rw [getD_set_same (by rw [qRun_length]; omega)]
      omega
    · rw [getD_set_far (by omega)]
      exact qRun_small h hl i (by omega) j (by omega)
theorem qRun_val (h : List Int) (hl : h.length = 17) : ∀ i, i ≤ 16 → gV 256 (qRun h i).1 + (qRun h i).2 * 256 ^ i = gV 256 h
  | 0, _ => by simp [qRun]
  | i + 1, hi => by
    have ih := qRun_val h hl i (by omega)
    rw [qRun, gV_set _ _ _ _ (by rw [qRun_length]; omega), ← ih, Int.pow_succ]
    generalize (qRun h i).2 = u
    generalize (qRun h i).1.getD i 0 = z
    generalize gV 256 (qRun h i).1 = V
    generalize hB : (256 : Int) ^ i = B
    have e : (u + z) = 256 * ((u + z) / 256) + (u + z) % 256 := (Int.mul_ediv_add_emod _ _).symm
    generalize (u + z) / 256 = q at *
    generalize (u + z) % 256 = r at *
    have : u = 256 * q + r - z := by omega
    subst this
    grind
theorem qRun_nonneg (h : List Int) (hn : ∀ i, 0 ≤ h.getD i 0) : ∀ i, 0 ≤ (qRun h i).2
  | 0 => by simp [qRun]
  | i + 1 => by
    have ih := qRun_nonneg h hn i
    have := hn i
    rw [qRun, qRun_far h i i (Nat.le_refl _)]
    show 0 ≤ ((qRun h i).2 + h.getD i 0) / 256
    omega
theorem qRun_top (h : List Int) {M : Int} (hn : ∀ i, 0 ≤ h.getD i 0 ∧ h.getD i 0 ≤ M) : ∀ i, (qRun h i).2 ≤ M
  | 0 => by
    have := hn 0
    simp only [qRun]
    omega
  | i + 1 => by
    have ih := qRun_top h hn i
    have := hn i
    rw [qRun, qRun_far h i i (Nat.le_refl _)]
    show ((qRun h i).2 + h.getD i 0) / 256 ≤ M
    omega

/-- A whole pass: what is above 2^130 comes back five times. -/
def qPass (h : List Int) : List Int := ((qRun h 16).1.set 16 (((qRun h 16).2 + h.getD 16 0) % 4)).set 0 ((qRun h 16).1.getD 0 0 + 5 * (((qRun h 16).2 + h.getD 16 0) / 4))
theorem qPass_length (h : List Int) : (qPass h).length = h.length := by simp [qPass, qRun_length]
theorem pow_16 : (256 : Int) ^ 16 = 340282366920938463463374607431768211456 := by decide +kernel
theorem digits16 {zs : List Int} (hl : zs.length = 17) (h : ∀ j, j < 16 → 0 ≤ zs.getD j 0 ∧ zs.getD j 0 < 256) : 0 ≤ gV 256 (zs.take 16) ∧ gV 256 (zs.take 16) < 340282366920938463463374607431768211456 := by
  have := gV_range (B := 256) (by omega) (zs := zs.take 16) (fun i hi => by
    have hi2 : i < 16 := by simp at hi; omega
    rw [getD_take hi2]
    exact h i hi2)
  rw [List.length_take, hl] at this
  rw [← pow_16]
  exact this
theorem gV_17 {zs : List Int} (hl : zs.length = 17) : gV 256 zs = gV 256 (zs.take 16) + zs.getD 16 0 * 340282366920938463463374607431768211456 := by
  have h1 : zs.take 17 = zs := List.take_of_length_le (by omega)
  have h2 := gV_take_succ 256 zs 16 (by omega)
  rw [h1, pow_16] at h2
  exact h2
/-- What a pass does to a number that is not negative. -/
theorem qPass_val (h : List Int) (hl : h.length = 17) (hn : ∀ i, 0 ≤ h.getD i 0) :
    gV 256 (qPass h) = gV 256 h % two130 + 5 * (gV 256 h / two130) ∧ ((qRun h 16).2 + h.getD 16 0) / 4 = gV 256 h / two130 := by
  have hv := qRun_val h hl 16 (Nat.le_refl _)
  have hs := qRun_small h hl 16 (Nat.le_refl _)
  have hf := qRun_far h 16 16 (Nat.le_refl _)
  have hlen : (qRun h 16).1.length = 17 := by rw [qRun_length, hl]
  have hd := digits16 hlen hs
  have h17 := gV_17 hlen
  rw [hf] at h17
  rw [h17, pow_16] at hv
  have e1 : gV 256 (qPass h) = gV 256 ((qRun h 16).1.take 16) + ((qRun h 16).2 + h.getD 16 0) % 4 * 340282366920938463463374607431768211456 + 5 * (((qRun h 16).2 + h.getD 16 0) / 4) := by
    unfold qPass
    rw [gV_set _ _ _ _ (by simp [hlen]), gV_set _ _ _ _ (by omega), getD_set_far (by omega), pow_16, h17, hf]
    generalize gV 256 ((qRun h 16).1.take 16) = D
    generalize (qRun h 16).1.getD 0 0 = z
    generalize ((qRun h 16).2 + h.getD 16 0) % 4 = r
    generalize ((qRun h 16).2 + h.getD 16 0) / 4 = q
    rw [Int.pow_zero, Int.mul_one]
    omega
  have hu := qRun_nonneg h hn 16
  have h16 := hn 16
  rw [e1]
  generalize gV 256 ((qRun h 16).1.take 16) = D at *
  generalize (qRun h 16).2 = u at *
  generalize h.getD 16 0 = z at *
  generalize gV 256 h = V at *
  unfold two130
  clear e1 h17 hf hs hlen
  constructor
  · omega
  · omega
/-- What is below 2^130 stands, and its digits are small. -/
theorem qPass_small (h : List Int) (hl : h.length = 17) (hn : ∀ i, 0 ≤ h.getD i 0) (hv : gV 256 h < two130) :
    gV 256 (qPass h) = gV 256 h ∧ (∀ i, i < 16 → 0 ≤ (qPass h).getD i 0 ∧ (qPass h).getD i 0 < 256) ∧ 0 ≤ (qPass h).getD 16 0 ∧ (qPass h).getD 16 0 < 4 := by
  obtain ⟨h1, h2⟩ := qPass_val h hl hn
  have h0 : 0 ≤ gV 256 h := by
    have hv' := qRun_val h hl 16 (Nat.le_refl _)
    have hs := qRun_small h hl 16 (Nat.le_refl _)
    have hf := qRun_far h 16 16 (Nat.le_refl _)
    have hlen : (qRun h 16).1.length = 17 := by rw [qRun_length, hl]
    have hd := digits16 hlen hs
    have h17 := gV_17 hlen
    rw [hf] at h17
    rw [h17, pow_16] at hv'
    have hu := qRun_nonneg h hn 16
    have h16 := hn 16
    omega
  have hq : gV 256 h / two130 = 0 := Int.ediv_eq_zero_of_lt h0 hv
  have hm : gV 256 h % two130 = gV 256 h := Int.emod_eq_of_lt h0 hv
  rw [hq] at h1 h2
  rw [hm] at h1
  have hlen : (qRun h 16).1.length = 17 := by rw [qRun_length, hl]
  have hs := qRun_small h hl 16 (Nat.le_refl _)
  refine ⟨by rw [h1]; omega, fun i hi => ?_, ?_⟩
  · unfold qPass
    rw [h2]
    by_cases e : i = 0
    · subst e
      rw [getD_set_same (by simp [hlen])]
      have := hs 0 (by omega)
      omega
    · rw [getD_set_far (by omega), getD_set_far (by omega)]
      exact hs i hi
  · unfold qPass
    rw [getD_set_far (by omega), getD_set_same (by omega)]
    omega
theorem qPass_nonneg (h : List Int) (hl : h.length = 17) (hn : ∀ i, 0 ≤ h.getD i 0) : ∀ i, 0 ≤ (qPass h).getD i 0 := by
  intro i
  have hlen : (qRun h 16).1.length = 17 := by rw [qRun_length, hl]
  have hs := qRun_small h hl 16 (Nat.le_refl _)
  have hu := qRun_nonneg h hn 16
  have h16 := hn 16
  unfold qPass
  by_cases e : i = 0
  · subst e
    rw [getD_set_same (by simp [hlen])]
    have := hs 0 (by omega)
    omega
  · rw [getD_set_far (by omega)]
    by_cases e2 : i = 16
    · subst e2
      rw [getD_set_same (by omega)]
      omega
    · rw [getD_set_far (by omega)]
      rcases Nat.lt_or_ge i 16 with h | h
      · exact (hs i h).1
      · rw [getD_out (by omega)]
        omega
/-- Three passes, of digits none too great: the number modulo 2^130 - 5, below 2^130, in small digits. -/
def qThree (h : List Int) : List Int := qPass (qPass (qPass h))
def Can17 (h : List Int) : Prop := h.length = 17 ∧ (∀ i, i < 16 → 0 ≤ h.getD i 0 ∧ h.getD i 0 < 256) ∧ 0 ≤ h.getD 16 0 ∧ h.getD 16 0 < 4
theorem qThree_val (h : List Int) (hl : h.length = 17) (hn : ∀ i, 0 ≤ h.getD i 0) (hV : gV 256 h < 1496577676626844588240573268701473812127674924007424) :
    Can17 (qThree h) ∧ gV 256 (qThree h) % (pQ : Int) = gV 256 h % (pQ : Int) := by
  have n1 := qPass_nonneg h hl hn
  have l1 : (qPass h).length = 17 := by rw [qPass_length, hl]
  have n2 := qPass_nonneg _ l1 n1
  have l2 : (qPass (qPass h)).length = 17 := by rw [qPass_length, l1]
  have v1 := (qPass_val h hl hn).1
  have v2 := (qPass_val _ l1 n1).1
  have pos : ∀ k : List Int, k.length = 17 → (∀ i, 0 ≤ k.getD i 0) → 0 ≤ gV 256 k := fun k hk hn => by
    have : ∀ (zs : List Int), (∀ i, 0 ≤ zs.getD i 0) → 0 ≤ gV 256 zs := by
      intro zs
      induction zs with
      | nil => intro _; exact Int.le_refl _
      | cons z r ih =>
        intro h
        have h0 : 0 ≤ z := h 0
        have h1 := ih (fun i => by have := h (i + 1); simpa using this)
        simp only [gV]
        omega
    exact this k hn
  have p0 := pos h hl hn
  have b2 : gV 256 (qPass (qPass h)) < two130 ∧ gV 256 (qPass (qPass h)) % (pQ : Int) = gV 256 h % (pQ : Int) := by
    rw [v2, v1]
    generalize gV 256 h = V at *
    unfold two130 pQ
    clear v1 v2
    omega
  obtain ⟨s1, s2, s3⟩ := qPass_small _ l2 n2 b2.1
  refine ⟨⟨by unfold qThree; rw [qPass_length, l2], s2, s3⟩, ?_⟩
  unfold qThree
  rw [s1, b2.2]

end Go.Proofs.Ytelenldabjmjbaa

/- A product modulo 2^130 - 5 of two numbers of seventeen digits to the base 256. No program. Each theorem names its own conditions. -/
namespace Go.Proofs.Ytelenldabjmjbaa
open Go.RowKit
set_option linter.unusedVariables false
set_option linter.unusedSimpArgs false

def sumI (f : Nat → Int) : Nat → Int
  | 0 => 0
  | n + 1 => sumI f n + f n
theorem sumI_congr {f g : Nat → Int} : ∀ n, (∀ i, i < n → f i = g i) → sumI f n = sumI g n
  | 0, _ => rfl
  | n + 1, h => by simp only [sumI, sumI_congr n (fun i hi => h i (by omega)), h n (by omega)]
theorem sumI_add (f g : Nat → Int) : ∀ n, sumI (fun i => f i + g i) n = sumI f n + sumI g n
  | 0 => rfl
  | n + 1 => by simp only [sumI, sumI_add f g n]; omega
theorem sumI_mul (c : Int) (f : Nat → Int) : ∀ n, sumI (fun i => c * f i) n = c * sumI f n
  | 0 => by simp [sumI]
  | n + 1 => by simp only [sumI, sumI_mul c f n, Int.mul_add]
theorem sumI_swap (f : Nat → Nat → Int) (m : Nat) : ∀ n, sumI (fun i => sumI (fun j => f i j) m) n = sumI (fun j => sumI (fun i => f i j) n) m
  | 0 => by
    have : ∀ m, sumI (fun _ => (0 : Int)) m = 0 := fun m => by induction m with
      | zero => rfl
      | succ m ih => simp only [sumI, ih]; rfl
    simp only [sumI]
    exact (this m).symm
  | n + 1 => by
    simp only [sumI]
    rw [sumI_swap f m n, ← sumI_add]
theorem gV_take_sum (B : Int) (zs : List Int) : ∀ n, n ≤ zs.length → gV B (zs.take n) = sumI (fun i => zs.getD i 0 * B ^ i) n
  | 0, _ => by simp [sumI, gV]
  | n + 1, h => by rw [gV_take_succ B zs n (by omega), gV_take_sum B zs n (by omega)]; rfl
theorem gV_sum (B : Int) (zs : List Int) : gV B zs = sumI (fun i => zs.getD i 0 * B ^ i) zs.length := by
  have := gV_take_sum B zs zs.length (Nat.le_refl _)
  rwa [List.take_length] at this

/-- What the digit j of the one is taken with, for the digit i of the product. -/
def tCo (r : List Int) (i j : Nat) : Int := if j ≤ i then r.getD (i - j) 0 else 320 * r.getD (i + 17 - j) 0
/-- The sum for the digit i, as far as j. -/
def tRun (h r : List Int) (i : Nat) : Nat → Int
  | 0 => 0
  | j + 1 => tRun h r i j + h.getD j 0 * tCo r i j
theorem tRun_sum (h r : List Int) (i : Nat) : ∀ n, tRun h r i n = sumI (fun j => h.getD j 0 * tCo r i j) n
  | 0 => rfl
  | n + 1 => by simp only [tRun, sumI, tRun_sum h r i n]
/-- The first k digits of the product. -/
def tList (h r : List Int) : Nat → List Int
  | 0 => List.replicate 17 0
  | k + 1 => (tList h r k).set k (tRun h r k 17)
theorem tList_length (h r : List Int) : ∀ k, (tList h r k).length = 17
  | 0 => by simp [tList]
  | k + 1 => by simp [tList, tList_length h r k]
theorem tList_getD (h r : List Int) : ∀ k, k ≤ 17 → ∀ i, (tList h r k).getD i 0 = if i < k then tRun h r i 17 else 0
  | 0, _, i => by
    rw [if_neg (by omega)]
    simp only [tList]
    rcases Nat.lt_or_ge i 17 with hi | hi
    · rw [getD_eq (by simp; exact hi), List.getElem_replicate]
    · exact getD_out (by simp; exact hi)
  | k + 1, hk, i => by
    rw [tList]
    by_cases e : i = k
    · subst e
      rw [getD_set_same (by rw [tList_length]; omega), if_pos (by omega)]
    · rw [getD_set_far (by omega), tList_getD h r k (by omega) i]
      by_cases h1 : i < k
      · rw [if_pos h1, if_pos (by omega)]
      · rw [if_neg h1, if_neg (by omega)]

/-- The digits that one digit of h is taken with are r, moved up by so many: 2^136 is 320. -/
theorem tCo_val (r : List Int) (j : Nat) (hj : j < 17) : ∃ q, sumI (fun i => tCo r i j * 256 ^ i) 17 = 256 ^ j * sumI (fun k => r.getD k 0 * 256 ^ k) 17 + (pQ : Int) * q := by
  unfold pQ
  rcases (by omega : j = 0 ∨ j = 1 ∨ j = 2 ∨ j = 3 ∨ j = 4 ∨ j = 5 ∨ j = 6 ∨ j = 7 ∨ j = 8 ∨ j = 9 ∨ j = 10 ∨ j = 11 ∨ j = 12 ∨ j = 13 ∨ j = 14 ∨ j = 15 ∨ j = 16) with rfl | rfl | rfl | rfl | rfl | rfl | rfl | rfl | rfl | rfl | rfl | rfl | rfl | rfl | rfl | rfl | rfl
  · exact ⟨0, by simp only [sumI, tCo, Nat.reduceLeDiff, Nat.reduceSub, Nat.reduceAdd, if_true, if_false, reduceIte, Nat.reducePow, Int.reducePow]; omega⟩
  · exact ⟨-(64 * (r.getD 16 0 * 1)), by simp only [sumI, tCo, Nat.reduceLeDiff, Nat.reduceSub, Nat.reduceAdd, if_true, if_false, reduceIte, Nat.reducePow, Int.reducePow]; omega⟩
  · exact ⟨-(64 * (r.getD 15 0 * 1 + r.getD 16 0 * 256)), by simp only [sumI, tCo, Nat.reduceLeDiff, Nat.reduceSub, Nat.reduceAdd, if_true, if_false, reduceIte, Nat.reducePow, Int.reducePow]; omega⟩
  · exact ⟨-(64 * (r.getD 14 0 * 1 + r.getD 15 0 * 256 + r.getD 16 0 * 65536)), by simp only [sumI, tCo, Nat.reduceLeDiff, Nat.reduceSub, Nat.reduceAdd, if_true, if_false, reduceIte, Nat.reducePow, Int.reducePow]; omega⟩
  · exact ⟨-(64 * (r.getD 13 0 * 1 + r.getD 14 0 * 256 + r.getD 15 0 * 65536 + r.getD 16 0 * 16777216)), by simp only [sumI, tCo, Nat.reduceLeDiff, Nat.reduceSub, Nat.reduceAdd, if_true, if_false, reduceIte, Nat.reducePow, Int.reducePow]; omega⟩
  · exact ⟨-(64 * (r.getD 12 0 * 1 + r.getD 13 0 * 256 + r.getD 14 0 * 65536 + r.getD 15 0 * 16777216 + r.getD 16 0 * 4294967296)), by simp only [sumI, tCo, Nat.reduceLeDiff, Nat.reduceSub, Nat.reduceAdd, if_true, if_false, reduceIte, Nat.reducePow, Int.reducePow]; omega⟩
  · exact ⟨-(64 * (r.getD 11 0 * 1 + r.getD 12 0 * 256 + r.getD 13 0 * 65536 + r.getD 14 0 * 16777216 + r.getD 15 0 * 4294967296 + r.getD 16 0 * 1099511627776)), by simp only [sumI, tCo, Nat.reduceLeDiff, Nat.reduceSub, Nat.reduceAdd, if_true, if_false, reduceIte, Nat.reducePow, Int.reducePow]; omega⟩
  · exact ⟨-(64 * (r.getD 10 0 * 1 + r.getD 11 0 * 256 + r.getD 12 0 * 65536 + r.getD 13 0 * 16777216 + r.getD 14 0 * 4294967296 + r.getD 15 0 * 1099511627776 + r.getD 16 0 * 281474976710656)), by simp only [sumI, tCo, Nat.reduceLeDiff, Nat.reduceSub, Nat.reduceAdd, if_true, if_false, reduceIte, Nat.reducePow, Int.reducePow]; omega⟩
  · exact ⟨-(64 * (r.getD 9 0 * 1 + r.getD 10 0 * 256 + r.getD 11 0 * 65536 + r.getD 12 0 * 16777216 + r.getD 13 0 * 4294967296 + r.getD 14 0 * 1099511627776 + r.getD 15 0 * 281474976710656 + r.getD 16 0 * 72057594037927936)), by simp only [sumI, tCo, Nat.reduceLeDiff, Nat.reduceSub, Nat.reduceAdd, if_true, if_false, reduceIte, Nat.reducePow, Int.reducePow]; omega⟩
  · exact ⟨-(64 * (r.getD 8 0 * 1 + r.getD 9 0 * 256 + r.getD 10 0 * 65536 + r.getD 11 0 * 16777216 + r.getD 12 0 * 4294967296 + r.getD 13 0 * 1099511627776 + r.getD 14 0 * 281474976710656 + r.getD 15 0 * 72057594037927936 + r.getD 16 0 * 18446744073709551616)), by simp only [sumI, tCo, Nat.reduceLeDiff, Nat.reduceSub, Nat.reduceAdd, if_true, if_false, reduceIte, Nat.reducePow, Int.reducePow]; omega⟩
  · exact ⟨-(64 * (r.getD 7 0 * 1 + r.getD 8 0 * 256 + r.getD 9 0 * 65536 + r.getD 10 0 * 16777216 + r.getD 11 0 * 4294967296 + r.getD 12 0 * 1099511627776 + r.getD 13 0 * 281474976710656 + r.getD 14 0 * 72057594037927936 + r.getD 15 0 * 18446744073709551616 + r.getD 16 0 * 4722366482869645213696)), by simp only [sumI, tCo, Nat.reduceLeDiff, Nat.reduceSub, Nat.reduceAdd, if_true, if_false, reduceIte, Nat.reducePow, Int.reducePow]; omega⟩
  · exact ⟨-(64 * (r.getD 6 0 * 1 + r.getD 7 0 * 256 + r.getD 8 0 * 65536 + r.getD 9 0 * 16777216 + r.getD 10 0 * 4294967296 + r.getD 11 0 * 1099511627776 + r.getD 12 0 * 281474976710656 + r.getD 13 0 * 72057594037927936 + r.getD 14 0 * 18446744073709551616 + r.getD 15 0 * 4722366482869645213696 + r.getD 16 0 * 1208925819614629174706176)), by simp only [sumI, tCo, Nat.reduceLeDiff, Nat.reduceSub, Nat.reduceAdd, if_true, if_false, reduceIte, Nat.reducePow, Int.reducePow]; omega⟩
  · exact ⟨-(64 * (r.getD 5 0 * 1 + r.getD 6 0 * 256 + r.getD 7 0 * 65536 + r.getD 8 0 * 16777216 + r.getD 9 0 * 4294967296 + r.getD 10 0 * 1099511627776 + r.getD 11 0 * 281474976710656 + r.getD 12 0 * 72057594037927936 + r.getD 13 0 * 18446744073709551616 + r.getD 14 0 * 4722366482869645213696 + r.getD 15 0 * 1208925819614629174706176 + r.getD 16 0 * 309485009821345068724781056)), by simp only [sumI, tCo, Nat.reduceLeDiff, Nat.reduceSub, Nat.reduceAdd, if_true, if_false, reduceIte, Nat.reducePow, Int.reducePow]; omega⟩
  · exact ⟨-(64 * (r.getD 4 0 * 1 + r.getD 5 0 * 256 + r.getD 6 0 * 65536 + r.getD 7 0 * 16777216 + r.getD 8 0 * 4294967296 + r.getD 9 0 * 1099511627776 + r.getD 10 0 * 281474976710656 + r.getD 11 0 * 72057594037927936 + r.getD 12 0 * 18446744073709551616 + r.getD 13 0 * 4722366482869645213696 + r.getD 14 0 * 1208925819614629174706176 + r.getD 15 0 * 309485009821345068724781056 + r.getD 16 0 * 79228162514264337593543950336)), by simp only [sumI, tCo, Nat.reduceLeDiff, Nat.reduceSub, Nat.reduceAdd, if_true, if_false, reduceIte, Nat.reducePow, Int.reducePow]; omega⟩
  · exact ⟨-(64 * (r.getD 3 0 * 1 + r.getD 4 0 * 256 + r.getD 5 0 * 65536 + r.getD 6 0 * 16777216 + r.getD 7 0 * 4294967296 + r.getD 8 0 * 1099511627776 + r.getD 9 0 * 281474976710656 + r.getD 10 0 * 72057594037927936 + r.getD 11 0 * 18446744073709551616 + r.getD 12 0 * 4722366482869645213696 + r.getD 13 0 * 1208925819614629174706176 + r.getD 14 0 * 309485009821345068724781056 + r.getD 15 0 * 79228162514264337593543950336 + r.getD 16 0 * 20282409603651670423947251286016)), by simp only [sumI, tCo, Nat.reduceLeDiff, Nat.reduceSub, Nat.reduceAdd, if_true, if_false, reduceIte, Nat.reducePow, Int.reducePow]; omega⟩
  · exact ⟨-(64 * (r.getD 2 0 * 1 + r.getD 3 0 * 256 + r.getD 4 0 * 65536 + r.getD 5 0 * 16777216 + r.getD 6 0 * 4294967296 + r.getD 7 0 * 1099511627776 + r.getD 8 0 * 281474976710656 + r.getD 9 0 * 72057594037927936 + r.getD 10 0 * 18446744073709551616 + r.getD 11 0 * 4722366482869645213696 + r.getD 12 0 * 1208925819614629174706176 + r.getD 13 0 * 309485009821345068724781056 + r.getD 14 0 * 79228162514264337593543950336 + r.getD 15 0 * 20282409603651670423947251286016 + r.getD 16 0 * 5192296858534827628530496329220096)), by simp only [sumI, tCo, Nat.reduceLeDiff, Nat.reduceSub, Nat.reduceAdd, if_true, if_false, reduceIte, Nat.reducePow, Int.reducePow]; omega⟩
  · exact ⟨-(64 * (r.getD 1 0 * 1 + r.getD 2 0 * 256 + r.getD 3 0 * 65536 + r.getD 4 0 * 16777216 + r.getD 5 0 * 4294967296 + r.getD 6 0 * 1099511627776 + r.getD 7 0 * 281474976710656 + r.getD 8 0 * 72057594037927936 + r.getD 9 0 * 18446744073709551616 + r.getD 10 0 * 4722366482869645213696 + r.getD 11 0 * 1208925819614629174706176 + r.getD 12 0 * 309485009821345068724781056 + r.getD 13 0 * 79228162514264337593543950336 + r.getD 14 0 * 20282409603651670423947251286016 + r.getD 15 0 * 5192296858534827628530496329220096 + r.getD 16 0 * 1329227995784915872903807060280344576)), by simp only [sumI, tCo, Nat.reduceLeDiff, Nat.reduceSub, Nat.reduceAdd, if_true, if_false, reduceIte, Nat.reducePow, Int.reducePow]; omega⟩
theorem sumI_part (r h : List Int) : ∀ n, n ≤ 17 → ∃ q, sumI (fun j => h.getD j 0 * sumI (fun i => tCo r i j * 256 ^ i) 17) n = sumI (fun j => h.getD j 0 * 256 ^ j) n * sumI (fun k => r.getD k 0 * 256 ^ k) 17 + (pQ : Int) * q
  | 0, _ => ⟨0, by simp [sumI]⟩
  | n + 1, hn => by
    obtain ⟨q, hq⟩ := sumI_part r h n (by omega)
    obtain ⟨q2, hq2⟩ := tCo_val r n (by omega)
    refine ⟨q + h.getD n 0 * q2, ?_⟩
    simp only [sumI] at hq hq2 ⊢
    rw [hq, hq2]
    grind
/-- The product of both numbers, modulo 2^130 - 5. -/
theorem tList_val {h r : List Int} (hh : h.length = 17) (hr : r.length = 17) : gV 256 (tList h r 17) % (pQ : Int) = gV 256 h * gV 256 r % (pQ : Int) := by
  have e1 : gV 256 (tList h r 17) = sumI (fun i => sumI (fun j => h.getD j 0 * (tCo r i j * 256 ^ i)) 17) 17 := by
    rw [gV_sum, tList_length]
    refine sumI_congr 17 (fun i hi => ?_)
    rw [tList_getD h r 17 (Nat.le_refl _) i, if_pos hi, tRun_sum, Int.mul_comm, ← sumI_mul]
    refine sumI_congr 17 (fun j hj => ?_)
    rw [Int.mul_comm, Int.mul_assoc]
  rw [sumI_swap] at e1
  have e2 : gV 256 (tList h r 17) = sumI (fun j => h.getD j 0 * sumI (fun i => tCo r i j * 256 ^ i) 17) 17 := by
    rw [e1]
    refine sumI_congr 17 (fun j hj => ?_)
    rw [sumI_mul]
  obtain ⟨q, hq⟩ := sumI_part r h 17 (Nat.le_refl _)
  have g1 := gV_sum 256 h
  have g2 := gV_sum 256 r
  rw [hh] at g1
  rw [hr] at g2
  rw [e2, hq, ← g1, ← g2, Int.add_mul_emod_self_left]

/-- Bounds of the sums. -/
theorem tRun_bound {h r : List Int} (hh : ∀ i, 0 ≤ h.getD i 0 ∧ h.getD i 0 ≤ 1024) (hr : ∀ i, 0 ≤ r.getD i 0 ∧ r.getD i 0 ≤ 255) (i : Nat) : ∀ j, 0 ≤ tRun h r i j ∧ tRun h r i j ≤ 83558400 * j
  | 0 => by simp [tRun]
  | j + 1 => by
    obtain ⟨b1, b2⟩ := tRun_bound hh hr i j
    have h1 := hh j
    have h2 : 0 ≤ tCo r i j ∧ tCo r i j ≤ 81600 := by
      unfold tCo
      split
      · have := hr (i - j)
        omega
      · have := hr (i + 17 - j)
        omega
    have h3 : 0 ≤ h.getD j 0 * tCo r i j := Int.mul_nonneg h1.1 h2.1
    have h4 : h.getD j 0 * tCo r i j ≤ 1024 * 81600 := Int.mul_le_mul h1.2 h2.2 h2.1 (by omega)
    rw [tRun]
    constructor <;> omega

/-- A number from 0 to 2^130 - 6, of one below 2^130. -/
def wRun (h : List Int) : Nat → List Int × Int
  | 0 => (h, 5)
  | i + 1 => ((wRun h i).1.set i (((wRun h i).2 + (wRun h i).1.getD i 0) % 256), ((wRun h i).2 + (wRun h i).1.getD i 0) / 256)
theorem wRun_length (h : List Int) : ∀ i, (wRun h i).1.length = h.length
  | 0 => rfl
  | i + 1 => by simp [wRun, wRun_length h i]
theorem wRun_far (h : List Int) : ∀ i j, i ≤ j → (wRun h i).1.getD j 0 = h.getD j 0
  | 0, _, _ => rfl
  | i + 1, j, hj => by
    rw [wRun, getD_set_far (by omega), wRun_far h i j (by omega)]
theorem wRun_small (h : List Int) (hl : h.length = 17) : ∀ i, i ≤ 17 → ∀ j, j < i → 0 ≤ (wRun h i).1.getD j 0 ∧ (wRun h i).1.getD j 0 < 256
  | 0, _, j, hj => by omega
  | i + 1, hi, j, hj => by
    rw [wRun]
    by_cases e : j = i
    · subst e
      rw [getD_set_same (by rw [wRun_length]; omega)]
      omega
    · rw [getD_set_far (by omega)]
      exact wRun_small h hl i (by omega) j (by omega)
theorem wRun_val (h : List Int) (hl : h.length = 17) : ∀ i, i ≤ 17 → gV 256 (wRun h i).1 + (wRun h i).2 * 256 ^ i = gV 256 h + 5
  | 0, _ => by simp [wRun]
  | i + 1, hi => by
    have ih := wRun_val h hl i (by omega)
    rw [wRun, gV_set _ _ _ _ (by rw [wRun_length]; omega), ← ih, Int.pow_succ]
    generalize (wRun h i).2 = u
    generalize (wRun h i).1.getD i 0 = z
    generalize gV 256 (wRun h i).1 = V
    generalize hB : (256 : Int) ^ i = B
    have e : (u + z) = 256 * ((u + z) / 256) + (u + z) % 256 := (Int.mul_ediv_add_emod _ _).symm
    generalize (u + z) / 256 = q at *
    generalize (u + z) % 256 = r at *
    have : u = 256 * q + r - z := by omega
    subst this
    grind
theorem wRun_u (h : List Int) (hc : ∀ i, 0 ≤ h.getD i 0 ∧ h.getD i 0 < 256) : ∀ i, 0 ≤ (wRun h i).2 ∧ (wRun h i).2 ≤ 5
  | 0 => by simp [wRun]
  | i + 1 => by
    have ih := wRun_u h hc i
    have := hc i
    rw [wRun, wRun_far h i i (Nat.le_refl _)]
    show 0 ≤ ((wRun h i).2 + h.getD i 0) / 256 ∧ ((wRun h i).2 + h.getD i 0) / 256 ≤ 5
    omega
theorem Can17.digit {h : List Int} (hc : Can17 h) (i : Nat) : 0 ≤ h.getD i 0 ∧ h.getD i 0 < 256 := by
  obtain ⟨hl, h1, h2⟩ := hc
  rcases Nat.lt_or_ge i 16 with hi | hi
  · exact h1 i hi
  · rcases Nat.lt_or_ge i 17 with hi2 | hi2
    · have : i = 16 := by omega
      subst this
      omega
    · rw [getD_out (by omega)]
      omega
theorem Can17.range {h : List Int} (hc : Can17 h) : 0 ≤ gV 256 h ∧ gV 256 h < two130 := by
  have hd := digits16 hc.1 hc.2.1
  have h17 := gV_17 hc.1
  have := hc.2.2
  unfold two130
  omega
/-- What is taken for the whole number. -/
def wOut (h : List Int) : List Int := if 4 ≤ (wRun h 17).1.getD 16 0 then (wRun h 17).1.set 16 ((wRun h 17).1.getD 16 0 - 4) else h
theorem wOut_val {h : List Int} (hc : Can17 h) : (wOut h).length = 17 ∧ (∀ i, i < 17 → 0 ≤ (wOut h).getD i 0 ∧ (wOut h).getD i 0 < 256) ∧ gV 256 (wOut h) = gV 256 h % (pQ : Int) := by
  have hl := hc.1
  have hr := hc.range
  have hlen : (wRun h 17).1.length = 17 := by rw [wRun_length, hl]
  have hs := wRun_small h hl 17 (Nat.le_refl _)
  have hv := wRun_val h hl 17 (Nat.le_refl _)
  have hu := wRun_u h hc.digit 17
  have hg := gV_range (B := 256) (by omega) (zs := (wRun h 17).1) (fun i hi => hs i (by omega))
  have hd := digits16 hlen (fun j hj => hs j (by omega))
  have h17 := gV_17 hlen
  have p17 : (256 : Int) ^ 17 = 87112285931760246646623899502532662132736 := by decide +kernel
  rw [p17] at hv
  have hs16 := hs 16 (by omega)
  unfold two130 at hr
  unfold wOut pQ
  by_cases h4 : 4 ≤ (wRun h 17).1.getD 16 0
  · rw [if_pos h4]
    refine ⟨by simp [hlen], fun i hi => ?_, ?_⟩
    · by_cases e : i = 16
      · subst e
        rw [getD_set_same (by omega)]
        omega
      · rw [getD_set_far (by omega)]
        exact hs i hi
    · rw [gV_set _ _ _ _ (by omega), pow_16]
      generalize gV 256 (wRun h 17).1 = W at *
      generalize gV 256 h = V at *
      generalize (wRun h 17).2 = u at *
      generalize (wRun h 17).1.getD 16 0 = z at *
      generalize gV 256 ((wRun h 17).1.take 16) = D at *
      clear hs hg p17 hlen
      have u0 : u = 0 := by omega
      subst u0
      have z4 : z = 4 := by omega
      subst z4
      have ev : V % 1361129467683753853853498429727072845819 = V - 1361129467683753853853498429727072845819 := by
        rw [← Int.sub_emod_right, Int.emod_eq_of_lt (by omega) (by omega)]
      show W + (4 - 4 - 4) * 340282366920938463463374607431768211456 = V % 1361129467683753853853498429727072845819
      rw [ev]
      omega
  · rw [if_neg h4]
    refine ⟨hl, fun i hi => hc.digit i, ?_⟩
    generalize gV 256 (wRun h 17).1 = W at *
    generalize gV 256 h = V at *
    generalize (wRun h 17).2 = u at *
    generalize (wRun h 17).1.getD 16 0 = z at *
    generalize gV 256 ((wRun h 17).1.take 16) = D at *
    clear hs hg p17 hlen
    omega

end Go.Proofs.Ytelenldabjmjbaa

/- Poly1305 as a function on lists of bytes. No program. Each theorem names its own conditions. -/
namespace Go.Proofs.Ytelenldabjmjbaa
open Go.RowKit
set_option linter.unusedVariables false
set_option linter.unusedSimpArgs false

/-- The number r of a key: bytes 3, 7, 11, 15 below 16, and 4, 8, 12 without their lowest two bits. -/
def pDigit (key : List UInt8) (i : Nat) : Nat :=
  if i = 3 ∨ i = 7 ∨ i = 11 ∨ i = 15 then (key.getD i 0).toNat % 16 else if i = 4 ∨ i = 8 ∨ i = 12 then (key.getD i 0).toNat / 4 * 4 else (key.getD i 0).toNat
def pDigits (key : List UInt8) : List Int := (List.range 16).map fun i => (pDigit key i : Int)
def pR (key : List UInt8) : Int := gV 256 (pDigits key)
def pS (key : List UInt8) : Nat := leN ((key.drop 16).take 16)
/-- A block's number: its bytes, and a 1 behind. -/
def pBlk (b : List UInt8) (n : Nat) : Int := ((leN ((b.drop (16 * n)).take 16) : Nat) : Int) + 256 ^ (min 16 (b.length - 16 * n))
/-- After n blocks. -/
def pAcc (r : Int) (b : List UInt8) : Nat → Int
  | 0 => 0
  | n + 1 => (pAcc r b n + pBlk b n) * r % (pQ : Int)
def pNum (key b : List UInt8) : Int := pAcc (pR key) b ((b.length + 15) / 16)
/-- The tag. -/
def polyTag (key b : List UInt8) : List UInt8 := bytesN 16 (pNum key b + pS key).toNat
theorem polyTag_length (key b : List UInt8) : (polyTag key b).length = 16 := bytesN_length _ _
theorem pQ_pos : (0 : Int) < (pQ : Int) := by decide +kernel
theorem pAcc_range (r : Int) (b : List UInt8) : ∀ n, 0 ≤ pAcc r b n ∧ pAcc r b n < (pQ : Int)
  | 0 => ⟨Int.le_refl _, pQ_pos⟩
  | n + 1 => ⟨Int.emod_nonneg _ (Int.ne_of_gt pQ_pos), Int.emod_lt_of_pos _ pQ_pos⟩
/-- RFC 8439, section 2.5.2. -/
theorem poly_rfc : polyTag [0x85, 0xd6, 0xbe, 0x78, 0x57, 0x55, 0x6d, 0x33, 0x7f, 0x44, 0x52, 0xfe, 0x42, 0xd5, 0x06, 0xa8, 0x01, 0x03, 0x80, 0x8a, 0xfb, 0x0d, 0xb2, 0xfd, 0x4a, 0xbf, 0xf6, 0xaf, 0x41, 0x49, 0xf5, 0x1b]
    [67, 114, 121, 112, 116, 111, 103, 114, 97, 112, 104, 105, 99, 32, 70, 111, 114, 117, 109, 32, 82, 101, 115, 101, 97, 114, 99, 104, 32, 71, 114, 111, 117, 112] = [0xa8, 0x06, 0x1d, 0xc1, 0x30, 0x51, 0x36, 0xc6, 0xc2, 0x2b, 0x8b, 0xaf, 0x0c, 0x01, 0x27, 0xa9] := by decide +kernel
theorem pR_zero {key : List UInt8} (h : ∀ i, i < 16 → key.getD i 0 = 0) : pR key = 0 := by
  unfold pR
  have e : pDigits key = List.replicate 16 0 := by
    unfold pDigits
    rw [List.eq_replicate_iff]
    refine ⟨by simp, fun z hz => ?_⟩
    obtain ⟨i, hi, rfl⟩ := List.mem_map.1 hz
    have hi2 : i < 16 := List.mem_range.1 hi
    unfold pDigit
    rw [h i hi2]
    split
    · rfl
    · split <;> rfl
  rw [e, gV_zeros]
/-- Under a key whose first half is nought each tag is the last half. -/
theorem pNum_zero {key : List UInt8} (b : List UInt8) (h : ∀ i, i < 16 → key.getD i 0 = 0) : pNum key b = 0 := by
  unfold pNum
  rw [pR_zero h]
  have : ∀ n, pAcc 0 b n = 0 := fun n => by
    cases n with
    | zero => rfl
    | succ n => simp [pAcc]
  exact this _

end Go.Proofs.Ytelenldabjmjbaa

/- What the document's own Poly makes of its digits: the key's, a block's, their sum, the tag's bytes. No program. Each theorem names its own conditions. -/
namespace Go.Proofs.Ytelenldabjmjbaa
open Go.RowKit
set_option linter.unusedVariables false
set_option linter.unusedSimpArgs false

theorem gV_le {M : Int} (hM : 0 ≤ M) : ∀ {zs : List Int}, (∀ i, 0 ≤ zs.getD i 0 ∧ zs.getD i 0 ≤ M) → 255 * gV 256 zs + M ≤ M * 256 ^ zs.length
  | [], _ => by simp [gV]
  | z :: r, h => by
    have h0 := h 0
    simp only [List.getD_cons_zero] at h0
    have ih := gV_le hM (zs := r) (fun i => by have := h (i + 1); simpa using this)
    simp only [gV, List.length_cons, Int.pow_succ]
    generalize gV 256 r = V at *
    generalize hB : (256 : Int) ^ r.length = B at *
    have e : M * (B * 256) = 256 * (M * B) := by rw [← Int.mul_assoc, Int.mul_comm]
    rw [e]
    generalize M * B = X at *
    omega
theorem gV_nonneg : ∀ {zs : List Int}, (∀ i, 0 ≤ zs.getD i 0) → 0 ≤ gV 256 zs
  | [], _ => Int.le_refl _
  | z :: r, h => by
    have h0 := h 0
    simp only [List.getD_cons_zero] at h0
    have ih := gV_nonneg (zs := r) (fun i => by have := h (i + 1); simpa using this)
    simp only [gV]
    omega
/-- A product, carried. -/
theorem mul17 {h r : List Int} (hl : h.length = 17) (rl : r.length = 17) (hh : ∀ i, 0 ≤ h.getD i 0 ∧ h.getD i 0 ≤ 1024) (hr : ∀ i, 0 ≤ r.getD i 0 ∧ r.getD i 0 ≤ 255) :
    Can17 (qThree (tList h r 17)) ∧ gV 256 (qThree (tList h r 17)) % (pQ : Int) = gV 256 h * gV 256 r % (pQ : Int) := by
  have hle : ∀ i, 0 ≤ (tList h r 17).getD i 0 ∧ (tList h r 17).getD i 0 ≤ 1420492800 := fun i => by
    rw [tList_getD h r 17 (Nat.le_refl _)]
    split
    · have := tRun_bound hh hr i 17
      omega
    · omega
  have hlen := tList_length h r 17
  have hb := gV_le (by omega) hle
  rw [hlen, show (256 : Int) ^ 17 = 87112285931760246646623899502532662132736 from by decide +kernel] at hb
  have hq := qThree_val (tList h r 17) hlen (fun i => (hle i).1) (by omega)
  exact ⟨hq.1, hq.2.trans (tList_val hl rl)⟩

/-- The key's digits, as they are laid. -/
def rA (key : List UInt8) : Nat → List Int
  | 0 => List.replicate 17 0
  | k + 1 => (rA key k).set k ((key.getD k 0).toNat : Int)
def rB (key : List UInt8) : Nat → List Int
  | 0 => rA key 16
  | k + 1 => (rB key k).set (3 + 4 * k) ((rB key k).getD (3 + 4 * k) 0 % 16)
def rC (key : List UInt8) : Nat → List Int
  | 0 => rB key 4
  | k + 1 => (rC key k).set (4 + 4 * k) ((rC key k).getD (4 + 4 * k) 0 / 4 * 4)
theorem rA_length (key : List UInt8) : ∀ k, (rA key k).length = 17
  | 0 => by simp [rA]
  | k + 1 => by rw [rA, List.length_set, rA_length key k]
theorem rB_length (key : List UInt8) : ∀ k, (rB key k).length = 17
  | 0 => rA_length key 16
  | k + 1 => by rw [rB, List.length_set, rB_length key k]
theorem rC_length (key : List UInt8) : ∀ k, (rC key k).length = 17
  | 0 => rB_length key 4
  | k + 1 => by rw [rC, List.length_set, rC_length key k]
theorem rA_digit (key : List UInt8) : ∀ k i, 0 ≤ (rA key k).getD i 0 ∧ (rA key k).getD i 0 ≤ 255
  | 0, i => by
    rcases Nat.lt_or_ge i 17 with hi | hi
    · rw [rA, getD_eq (by simp; exact hi), List.getElem_replicate]
      omega
    · rw [getD_out (by simp [rA]; exact hi)]
      omega
  | k + 1, i => by
    rw [rA]
    by_cases e : i = k
    · subst e
      rcases Nat.lt_or_ge i 17 with hi | hi
      · rw [getD_set_same (by rw [rA_length]; exact hi)]
        have := (key.getD i 0).toNat_lt
        omega
      · rw [getD_out (by rw [List.length_set, rA_length]; exact hi)]
        omega
    · rw [getD_set_far (by omega)]
      exact rA_digit key k i
theorem rB_digit (key : List UInt8) : ∀ k i, k ≤ 4 → 0 ≤ (rB key k).getD i 0 ∧ (rB key k).getD i 0 ≤ 255
  | 0, i, _ => rA_digit key 16 i
  | k + 1, i, hk => by
    rw [rB]
    have ih := rB_digit key k
    by_cases e : i = 3 + 4 * k
    · subst e
      rw [getD_set_same (by rw [rB_length]; omega)]
      have := ih (3 + 4 * k) (by omega)
      omega
    · rw [getD_set_far (by omega)]
      exact ih i (by omega)
theorem rC_digit (key : List UInt8) : ∀ k i, k ≤ 3 → 0 ≤ (rC key k).getD i 0 ∧ (rC key k).getD i 0 ≤ 255
  | 0, i, _ => rB_digit key 4 i (by omega)
  | k + 1, i, hk => by
    rw [rC]
    have ih := rC_digit key k
    by_cases e : i = 4 + 4 * k
    · subst e
      rw [getD_set_same (by rw [rC_length]; omega)]
      have := ih (4 + 4 * k) (by omega)
      omega
    · rw [getD_set_far (by omega)]
      exact ih i (by omega)
theorem rA_getD (key : List UInt8) : ∀ k, k ≤ 17 → ∀ i, (rA key k).getD i 0 = if i < k then ((key.getD i 0).toNat : Int) else 0
  | 0, _, i => by
    rw [if_neg (by omega)]
    rcases Nat.lt_or_ge i 17 with hi | hi
    · rw [rA, getD_eq (by simp; exact hi), List.getElem_replicate]
    · rw [getD_out (by simp [rA]; exact hi)]
  | k + 1, hk, i => by
    rw [rA]
    by_cases e : i = k
    · subst e
      rw [getD_set_same (by rw [rA_length]; omega), if_pos (by omega)]
    · rw [getD_set_far (by omega), rA_getD key k (by omega) i]
      by_cases h : i < k
      · rw [if_pos h, if_pos (by omega)]
      · rw [if_neg h, if_neg (by omega)]
theorem rB_getD (key : List UInt8) : ∀ k, k ≤ 4 → ∀ i, (rB key k).getD i 0 = if i % 4 = 3 ∧ i < 3 + 4 * k then (rA key 16).getD i 0 % 16 else (rA key 16).getD i 0
  | 0, _, i => by rw [if_neg (by omega)]; rfl
  | k + 1, hk, i => by
    rw [rB]
    by_cases e : i = 3 + 4 * k
    · subst e
      rw [getD_set_same (by rw [rB_length]; omega), rB_getD key k (by omega), if_neg (by omega), if_pos (by omega)]
    · rw [getD_set_far (by omega), rB_getD key k (by omega) i]
      by_cases h : i % 4 = 3 ∧ i < 3 + 4 * k
      · rw [if_pos h, if_pos (by omega)]
      · rw [if_neg h, if_neg (by omega)]
theorem rC_getD (key : List UInt8) : ∀ k, k ≤ 3 → ∀ i, (rC key k).getD i 0 = if i % 4 = 0 ∧ 4 ≤ i ∧ i < 4 + 4 * k then (rB key 4).getD i 0 / 4 * 4 else (rB key 4).getD i 0
  | 0, _, i => by rw [if_neg (by omega)]; rfl
  | k + 1, hk, i => by
    rw [rC]
    by_cases e : i = 4 + 4 * k
    · subst e
      rw [getD_set_same (by rw [rC_length]; omega), rC_getD key k (by omega), if_neg (by omega), if_pos (by omega)]
    · rw [getD_set_far (by omega), rC_getD key k (by omega) i]
      by_cases h : i % 4 = 0 ∧ 4 ≤ i ∧ i < 4 + 4 * k
      · rw [if_pos h, if_pos (by omega)]
      · rw [if_neg h, if_neg (by omega)]
theorem pDigits_length (key : List UInt8) : (pDigits key).length = 16 := by simp [pDigits]
theorem pDigits_getD (key : List UInt8) {i : Nat} (h : i < 16) : (pDigits key).getD i 0 = (pDigit key i : Int) := by
  simp [pDigits, List.getD, h]
theorem rC_full (key : List UInt8) : rC key 3 = pDigits key ++ [0] := by
  apply ext_getD (by rw [rC_length, List.length_append, pDigits_length]; rfl)
  intro i hi
  rw [rC_length] at hi
  rw [rC_getD key 3 (by omega), rB_getD key 4 (by omega), rA_getD key 16 (by omega)]
  rcases Nat.lt_or_ge i 16 with h | h
  · have e : (pDigits key ++ [0]).getD i 0 = (pDigit key i : Int) := by
      rw [← pDigits_getD key h]
      simp [List.getD, List.getElem?_append_left (show i < (pDigits key).length by rw [pDigits_length]; exact h)]
    rw [e, if_pos h]
    unfold pDigit
    generalize (key.getD i 0).toNat = x
    by_cases h3 : i % 4 = 3
    · rw [if_neg (by omega), if_pos (by omega), if_pos (by omega)]
      omega
    · by_cases h0 : i % 4 = 0 ∧ 4 ≤ i
      · rw [if_pos (by omega), if_neg (by omega), if_neg (by omega), if_pos (by omega)]
        omega
      · rw [if_neg (by omega), if_neg (by omega), if_neg (by omega), if_neg (by omega)]
  · have h16 : i = 16 := by omega
    subst h16
    rw [if_neg (by omega), if_neg (by omega), if_neg (by omega)]
    simp [List.getD, pDigits_length]
theorem rC_val (key : List UInt8) : gV 256 (rC key 3) = pR key := by
  rw [rC_full, gV_append]
  simp [gV, pR]

/-- A block's digits: the bytes as far as i; then a 1 behind. -/
def cA (b : List UInt8) (n : Nat) : Nat → List Int
  | 0 => List.replicate 17 0
  | i + 1 => (cA b n i).set i ((b.getD (16 * n + i) 0).toNat : Int)
theorem cA_length (b : List UInt8) (n : Nat) : ∀ k, (cA b n k).length = 17
  | 0 => by simp [cA]
  | k + 1 => by rw [cA, List.length_set, cA_length b n k]
theorem cA_getD (b : List UInt8) (n : Nat) : ∀ k, k ≤ 17 → ∀ i, (cA b n k).getD i 0 = if i < k then ((b.getD (16 * n + i) 0).toNat : Int) else 0
  | 0, _, i => by
    rw [if_neg (by omega)]
    rcases Nat.lt_or_ge i 17 with hi | hi
    · rw [cA, getD_eq (by simp; exact hi), List.getElem_replicate]
    · rw [getD_out (by simp [cA]; exact hi)]
  | k + 1, hk, i => by
    rw [cA]
    by_cases e : i = k
    · subst e
      rw [getD_set_same (by rw [cA_length]; omega), if_pos (by omega)]
    · rw [getD_set_far (by omega), cA_getD b n k (by omega) i]
      by_cases h : i < k
      · rw [if_pos h, if_pos (by omega)]
      · rw [if_neg h, if_neg (by omega)]
theorem gV_cA (b : List UInt8) (n : Nat) : ∀ k, k ≤ 16 → 16 * n + k ≤ b.length → gV 256 (cA b n k) = ((leN ((b.drop (16 * n)).take k) : Nat) : Int)
  | 0, _, _ => by
    rw [cA, gV_zeros]
    simp [leN]
  | k + 1, hk, hb => by
    rw [cA, gV_set _ _ _ _ (by rw [cA_length]; omega), gV_cA b n k (by omega) (by omega), cA_getD b n k (by omega) k, if_neg (by omega)]
    have e : (b.drop (16 * n)).take (k + 1) = (b.drop (16 * n)).take k ++ [b.getD (16 * n + k) 0] := by
      rw [List.take_succ_eq_append_getElem (by rw [List.length_drop]; omega)]
      congr 2
      rw [List.getElem_drop]
      simp [List.getD, show 16 * n + k < b.length by omega]
    rw [e, ← gV_bytes, ← gV_bytes, List.map_append, gV_append]
    have e2 : (((b.drop (16 * n)).take k).map fun b => (b.toNat : Int)).length = k := by
      rw [List.length_map, List.length_take, List.length_drop]
      omega
    rw [e2]
    simp only [List.map_cons, List.map_nil, gV]
    generalize (256 : Int) ^ k = B
    generalize ((b.getD (16 * n + k) 0).toNat : Int) = z
    rw [Int.sub_zero, Int.mul_zero, Int.add_zero, Int.mul_comm]
/-- With the 1 behind, it is the block's number. -/
theorem gV_blk (b : List UInt8) (n : Nat) (hb : 16 * n < b.length) : gV 256 ((cA b n (min 16 (b.length - 16 * n))).set (min 16 (b.length - 16 * n)) 1) = pBlk b n := by
  have h16 : min 16 (b.length - 16 * n) ≤ 16 := by omega
  rw [gV_set _ _ _ _ (by rw [cA_length]; omega), gV_cA b n _ h16 (by omega), cA_getD b n _ (by omega) _, if_neg (by omega)]
  unfold pBlk
  have e : (b.drop (16 * n)).take (min 16 (b.length - 16 * n)) = (b.drop (16 * n)).take 16 := by
    rcases Nat.lt_or_ge (b.length - 16 * n) 16 with h | h
    · rw [Nat.min_eq_right (by omega), List.take_of_length_le (by rw [List.length_drop]; omega), List.take_of_length_le (by rw [List.length_drop]; omega)]
    · rw [Nat.min_eq_left h]
  rw [e]
  generalize (256 : Int) ^ (min 16 (b.length - 16 * n)) = B
  omega
theorem blk_digit (b : List UInt8) (n m : Nat) (hm : m ≤ 16) (i : Nat) : 0 ≤ ((cA b n m).set m 1).getD i 0 ∧ ((cA b n m).set m 1).getD i 0 ≤ 255 := by
  by_cases e : i = m
  · subst e
    rw [getD_set_same (by rw [cA_length]; omega)]
    omega
  · rw [getD_set_far (by omega), cA_getD b n m (by omega)]
    split
    · have := (b.getD (16 * n + i) 0).toNat_lt
      omega
    · omega

/-- A sum, digit by digit. -/
def sA (h c : List Int) : Nat → List Int
  | 0 => h
  | i + 1 => (sA h c i).set i ((sA h c i).getD i 0 + c.getD i 0)
theorem sA_length (h c : List Int) : ∀ k, (sA h c k).length = h.length
  | 0 => rfl
  | k + 1 => by rw [sA, List.length_set, sA_length h c k]
theorem sA_far (h c : List Int) : ∀ k j, k ≤ j → (sA h c k).getD j 0 = h.getD j 0
  | 0, _, _ => rfl
  | k + 1, j, hj => by rw [sA, getD_set_far (by omega), sA_far h c k j (by omega)]
theorem sA_val (h c : List Int) (hl : h.length = c.length) : ∀ k, k ≤ c.length → gV 256 (sA h c k) = gV 256 h + gV 256 (c.take k)
  | 0, _ => by simp [sA, gV]
  | k + 1, hk => by
    rw [sA, gV_set _ _ _ _ (by rw [sA_length]; omega), sA_val h c hl k (by omega), gV_take_succ 256 c k (by omega)]
    have : (sA h c k).getD k 0 + c.getD k 0 - (sA h c k).getD k 0 = c.getD k 0 := by omega
    rw [this]
    omega
theorem sA_full (h c : List Int) (hl : h.length = 17) (cl : c.length = 17) : gV 256 (sA h c 17) = gV 256 h + gV 256 c := by
  rw [sA_val h c (by omega) 17 (by omega), List.take_of_length_le (by omega)]
theorem sA_digit (h c : List Int) (hl : h.length = 17) (hh : ∀ i, 0 ≤ h.getD i 0 ∧ h.getD i 0 ≤ 255) (hc : ∀ i, 0 ≤ c.getD i 0 ∧ c.getD i 0 ≤ 255) : ∀ k i, 0 ≤ (sA h c k).getD i 0 ∧ (sA h c k).getD i 0 ≤ 1024
  | 0, i => by
    have := hh i
    exact ⟨this.1, Int.le_trans this.2 (by decide)⟩
  | k + 1, i => by
    rw [sA]
    by_cases e : i = k
    · subst e
      rcases Nat.lt_or_ge i 17 with hi | hi
      · rw [getD_set_same (by rw [sA_length]; omega), sA_far h c i i (Nat.le_refl _)]
        have := hh i
        have := hc i
        omega
      · rw [getD_out (by rw [List.length_set, sA_length]; omega)]
        omega
    · rw [getD_set_far (by omega)]
      exact sA_digit h c hl hh hc k i

end Go.Proofs.Ytelenldabjmjbaa

/- The tag's bytes, one behind the other, as the document's own Poly lays them. No program. Each theorem names its own conditions. -/
namespace Go.Proofs.Ytelenldabjmjbaa
open Go.RowKit
set_option linter.unusedVariables false
set_option linter.unusedSimpArgs false

def uT (h : List Int) (s : List UInt8) : Nat → Int
  | 0 => 0
  | i + 1 => (uT h s i + h.getD i 0 + ((s.getD i 0).toNat : Int)) / 256
def tD (h : List Int) (s : List UInt8) (i : Nat) : Int := (uT h s i + h.getD i 0 + ((s.getD i 0).toNat : Int)) % 256
theorem uT_range {h : List Int} (hh : ∀ i, 0 ≤ h.getD i 0 ∧ h.getD i 0 ≤ 255) (s : List UInt8) : ∀ i, 0 ≤ uT h s i ∧ uT h s i ≤ 2
  | 0 => by simp [uT]
  | i + 1 => by
    have ih := uT_range hh s i
    have h1 := hh i
    have h2 := (s.getD i 0).toNat_lt
    simp only [uT]
    omega
def tL (h : List Int) (s : List UInt8) (n : Nat) : List Int := (List.range n).map (tD h s)
theorem tL_length (h : List Int) (s : List UInt8) (n : Nat) : (tL h s n).length = n := by simp [tL]
theorem tL_succ (h : List Int) (s : List UInt8) (n : Nat) : tL h s (n + 1) = tL h s n ++ [tD h s n] := by
  simp [tL, List.range_succ]
theorem uT_val (h : List Int) (s : List UInt8) (hl : h.length = 17) (sl : s.length = 16) : ∀ i, i ≤ 16 → gV 256 (tL h s i) + uT h s i * 256 ^ i = gV 256 (h.take i) + ((leN (s.take i) : Nat) : Int)
  | 0, _ => by simp [tL, uT, gV, leN]
  | i + 1, hi => by
    have ih := uT_val h s hl sl i (by omega)
    have e : s.take (i + 1) = s.take i ++ [s.getD i 0] := by
      rw [List.take_succ_eq_append_getElem (by omega)]
      simp [List.getD, show i < s.length by omega]
    rw [tL_succ, gV_append, tL_length, gV_take_succ 256 h i (by omega), e, ← gV_bytes, List.map_append, gV_append]
    have e2 : ((s.take i).map fun b => (b.toNat : Int)).length = i := by rw [List.length_map, List.length_take]; omega
    rw [e2, gV_bytes, Int.pow_succ]
    simp only [List.map_cons, List.map_nil, gV, uT]
    unfold tD
    generalize gV 256 (tL h s i) = T at *
    generalize gV 256 (h.take i) = V at *
    generalize ((leN (s.take i) : Nat) : Int) = L at *
    generalize (256 : Int) ^ i = B at *
    generalize uT h s i = u at *
    generalize h.getD i 0 = z at *
    generalize ((s.getD i 0).toNat : Int) = y at *
    have e3 : (u + z + y) = 256 * ((u + z + y) / 256) + (u + z + y) % 256 := (Int.mul_ediv_add_emod _ _).symm
    generalize (u + z + y) / 256 = q at *
    generalize (u + z + y) % 256 = r at *
    have : u = 256 * q + r - z - y := by omega
    subst this
    clear e3 e e2
    grind
theorem tag_digits {h : List Int} {key b : List UInt8} (hk : key.length = 32) (hl : h.length = 17) (hd : ∀ i, i < 17 → 0 ≤ h.getD i 0 ∧ h.getD i 0 < 256) (hv : gV 256 h = pNum key b) :
    tL h ((key.drop 16).take 16) 16 = (polyTag key b).map fun b => (b.toNat : Int) := by
  have sl : ((key.drop 16).take 16).length = 16 := by rw [List.length_take, List.length_drop]; omega
  have h1 := uT_val h _ hl sl 16 (Nat.le_refl _)
  have h17 := gV_17 hl
  have hS : (((leN (((key.drop 16).take 16).take 16) : Nat) : Int)) = (pS key : Int) := by
    rw [List.take_of_length_le (l := (key.drop 16).take 16) (by omega)]
    rfl
  rw [hS] at h1
  clear hS
  generalize (key.drop 16).take 16 = s at *
  have hp := (pAcc_range (pR key) b ((b.length + 15) / 16)).1
  have hnum : 0 ≤ pNum key b := hp
  have td : ∀ i, i < 16 → 0 ≤ (tL h s 16).getD i 0 ∧ (tL h s 16).getD i 0 < 256 := fun i hi => by
    have e : (tL h s 16).getD i 0 = tD h s i := by
      simp only [tL, List.getD_eq_getElem?_getD, List.getElem?_map, List.getElem?_range hi]
      rfl
    rw [e]
    unfold tD
    omega
  have hr := gV_range (B := 256) (by omega) (zs := tL h s 16) (fun i hi => td i (by rw [tL_length] at hi; exact hi))
  rw [tL_length, pow_16] at hr
  rw [pow_16] at h1
  have hX : gV 256 (tL h s 16) = (((pNum key b + pS key).toNat % 256 ^ 16 : Nat) : Int) := by
    rw [Int.natCast_emod, Int.toNat_of_nonneg (by omega), show ((256 ^ 16 : Nat) : Int) = 340282366920938463463374607431768211456 from by decide +kernel, ← hv, h17]
    generalize gV 256 (tL h s 16) = T at *
    generalize gV 256 (h.take 16) = V at *
    generalize h.getD 16 0 = z at *
    generalize uT h s 16 = u at *
    omega
  have g := gV_dig 16 (pNum key b + pS key).toNat
  show _ = dig 16 (pNum key b + pS key).toNat
  refine gV_inj (B := 256) (by omega) (by rw [tL_length, dig_length]) (fun i hi => td i (by rw [tL_length] at hi; exact hi)) (fun i hi => dig_digits 16 _ i (by rw [dig_length] at hi; exact hi)) ?_
  rw [hX, g]

end Go.Proofs.Ytelenldabjmjbaa

/- The code's limbs of 26 bits: sums, carries, what is settled and reduced, products. No program. Each theorem names its own conditions. -/
namespace Go.Proofs.Ytelenldabjmjbaa
open Go.RowKit
set_option linter.unusedVariables false
set_option linter.unusedSimpArgs false

/-- Five limbs of at most so much. -/
def Lim (M : Int) (l : List Int) : Prop := ∃ a b c d e, l = [a, b, c, d, e] ∧ (0 ≤ a ∧ a ≤ M) ∧ (0 ≤ b ∧ b ≤ M) ∧ (0 ≤ c ∧ c ≤ M) ∧ (0 ≤ d ∧ d ≤ M) ∧ (0 ≤ e ∧ e ≤ M)
theorem Lim.len {M : Int} {l : List Int} (h : Lim M l) : l.length = 5 := by
  obtain ⟨a, b, c, d, e, rfl, _⟩ := h
  rfl
theorem Lim.getD {M : Int} (hM : 0 ≤ M) {l : List Int} (h : Lim M l) : ∀ i, 0 ≤ l.getD i 0 ∧ l.getD i 0 ≤ M := by
  obtain ⟨a, b, c, d, e, rfl, h1, h2, h3, h4, h5⟩ := h
  intro i
  match i with
  | 0 => exact h1
  | 1 => exact h2
  | 2 => exact h3
  | 3 => exact h4
  | 4 => exact h5
  | n + 5 => simp; omega
theorem Lim.of {M : Int} {l : List Int} (hl : l.length = 5) (h : ∀ i, i < 5 → 0 ≤ l.getD i 0 ∧ l.getD i 0 ≤ M) : Lim M l := by
  match l, hl with
  | [a, b, c, d, e], _ => exact ⟨a, b, c, d, e, rfl, h 0 (by omega), h 1 (by omega), h 2 (by omega), h 3 (by omega), h 4 (by omega)⟩
theorem Lim.up {M N : Int} {l : List Int} (h : Lim M l) (hMN : M ≤ N) : Lim N l := by
  obtain ⟨a, b, c, d, e, rfl, h1, h2, h3, h4, h5⟩ := h
  exact ⟨a, b, c, d, e, rfl, by omega, by omega, by omega, by omega, by omega⟩
theorem gV5 (a b c d e : Int) : gV 67108864 [a, b, c, d, e] = a + 67108864 * b + 4503599627370496 * c + 302231454903657293676544 * d + 20282409603651670423947251286016 * e := by
  simp only [gV]
  omega

/-- A sum, limb by limb. -/
theorem sA_getD (h c : List Int) : ∀ k, k ≤ h.length → ∀ i, (sA h c k).getD i 0 = if i < k then h.getD i 0 + c.getD i 0 else h.getD i 0
  | 0, _, i => by rw [if_neg (by omega)]; rfl
  | k + 1, hk, i => by
    rw [sA]
    by_cases e : i = k
    · subst e
      rw [getD_set_same (by rw [sA_length]; omega), if_pos (by omega), sA_getD h c i (by omega) i, if_neg (by omega)]
    · rw [getD_set_far (by omega), sA_getD h c k (by omega) i]
      by_cases h1 : i < k
      · rw [if_pos h1, if_pos (by omega)]
      · rw [if_neg h1, if_neg (by omega)]
def addL (x y : List Int) : List Int := sA x y 5
theorem addL_five (a b c d e f g h i j : Int) : addL [a, b, c, d, e] [f, g, h, i, j] = [a + f, b + g, c + h, d + i, e + j] := by simp [addL, sA]
theorem addL_val {M N : Int} {x y : List Int} (hx : Lim M x) (hy : Lim N y) : Lim (M + N) (addL x y) ∧ gV 67108864 (addL x y) = gV 67108864 x + gV 67108864 y := by
  obtain ⟨a, b, c, d, e, rfl, h1, h2, h3, h4, h5⟩ := hx
  obtain ⟨f, g, h, i, j, rfl, k1, k2, k3, k4, k5⟩ := hy
  rw [addL_five]
  refine ⟨⟨_, _, _, _, _, rfl, by omega, by omega, by omega, by omega, by omega⟩, ?_⟩
  rw [gV5, gV5, gV5]
  omega

/-- Settling, limb by limb: what is carried goes on. -/
def zRun (h : List Int) : Nat → List Int × Int
  | 0 => (h, 0)
  | i + 1 => ((zRun h i).1.set i (((zRun h i).2 + (zRun h i).1.getD i 0) % 67108864), ((zRun h i).2 + (zRun h i).1.getD i 0) / 67108864)
theorem zRun_length (h : List Int) : ∀ i, (zRun h i).1.length = h.length
  | 0 => rfl
  | i + 1 => by simp [zRun, zRun_length h i]
theorem zRun_far (h : List Int) : ∀ i j, i ≤ j → (zRun h i).1.getD j 0 = h.getD j 0
  | 0, _, _ => rfl
  | i + 1, j, hj => by rw [zRun, getD_set_far (by omega), zRun_far h i j (by omega)]
theorem zRun_small (h : List Int) (hl : h.length = 5) : ∀ i, i ≤ 5 → ∀ j, j < i → 0 ≤ (zRun h i).1.getD j 0 ∧ (zRun h i).1.getD j 0 < 67108864
  | 0, _, j, hj => by omega
  | i + 1, hi, j, hj => by
    rw [zRun]
    by_cases e : j = i
    · subst e
      rw [getD_set_same (by rw [zRun_length]; omega)]
      omega
    · rw [getD_set_far (by omega)]
      exact zRun_small h hl i (by omega) j (by omega)
theorem zRun_val (h : List Int) (hl : h.length = 5) : ∀ i, i ≤ 5 → gV 67108864 (zRun h i).1 + (zRun h i).2 * 67108864 ^ i = gV 67108864 h
  | 0, _ => by simp [zRun]
  | i + 1, hi => by
    have ih := zRun_val h hl i (by omega)
    rw [zRun, gV_set _ _ _ _ (by rw [zRun_length]; omega), ← ih, Int.pow_succ]
    generalize (zRun h i).2 = u
    generalize (zRun h i).1.getD i 0 = z
    generalize gV 67108864 (zRun h i).1 = V
    generalize hB : (67108864 : Int) ^ i = B
    have e : (u + z) = 67108864 * ((u + z) / 67108864) + (u + z) % 67108864 := (Int.mul_ediv_add_emod _ _).symm
    generalize (u + z) / 67108864 = q at *
    generalize (u + z) % 67108864 = r at *
    have : u = 67108864 * q + r - z := by omega
    subst this
    clear e ih hB hi hl
    grind
theorem zRun_carry {M : Int} (hM : 0 ≤ M) (h : List Int) (hn : ∀ i, 0 ≤ h.getD i 0 ∧ h.getD i 0 ≤ M) : ∀ i, 0 ≤ (zRun h i).2 ∧ (zRun h i).2 ≤ M
  | 0 => by simp only [zRun]; omega
  | i + 1 => by
    have ih := zRun_carry hM h hn i
    have := hn i
    rw [zRun, zRun_far h i i (Nat.le_refl _)]
    show 0 ≤ ((zRun h i).2 + h.getD i 0) / 67108864 ∧ ((zRun h i).2 + h.getD i 0) / 67108864 ≤ M
    omega
def setL (h : List Int) : List Int := (zRun h 5).1
theorem pow26 : (67108864 : Int) ^ 5 = two130 := by decide +kernel
theorem lim_range {l : List Int} (h : Lim 67108863 l) : 0 ≤ gV 67108864 l ∧ gV 67108864 l < two130 := by
  have := gV_range (B := 67108864) (by omega) (zs := l) (fun i hi => by have := h.getD (by omega) i; omega)
  rw [h.len, pow26] at this
  exact this
theorem setL_val {h : List Int} (hl : h.length = 5) : Lim 67108863 (setL h) ∧ gV 67108864 (setL h) = gV 67108864 h % two130 := by
  have hL : Lim 67108863 (setL h) := Lim.of (by unfold setL; rw [zRun_length, hl]) (fun i hi => by
    have := zRun_small h hl 5 (Nat.le_refl _) i hi
    unfold setL
    omega)
  refine ⟨hL, ?_⟩
  have h1 := zRun_val h hl 5 (Nat.le_refl _)
  have h2 := lim_range hL
  rw [pow26] at h1
  show gV 67108864 (setL h) = _
  have h3 : gV 67108864 (setL h) + (zRun h 5).2 * two130 = gV 67108864 h := h1
  rw [← h3]
  generalize gV 67108864 (setL h) = V at *
  generalize (zRun h 5).2 = c at *
  unfold two130 at *
  omega

/-- Whether a number and 5 reach 2^130. -/
def rRun (h : List Int) : Nat → Int
  | 0 => 5
  | i + 1 => (rRun h i + h.getD i 0) / 67108864
theorem rRun_val {h : List Int} (hl : h.length = 5) (hn : ∀ i, 0 ≤ h.getD i 0) : ∀ i, i ≤ 5 → rRun h i = (gV 67108864 (h.take i) + 5) / 67108864 ^ i
  | 0, _ => by simp [rRun, gV]
  | i + 1, hi => by
    rw [rRun, rRun_val hl hn i (by omega), gV_take_succ _ _ _ (by omega), Int.pow_succ]
    have hB : (0 : Int) < 67108864 ^ i := Int.pow_pos (by omega)
    generalize (67108864 : Int) ^ i = B at *
    rw [show (gV 67108864 (h.take i) + h.getD i 0 * B + 5) / (B * 67108864) = (gV 67108864 (h.take i) + h.getD i 0 * B + 5) / B / 67108864 from by rw [Int.ediv_ediv, if_neg (fun h => absurd h.1 (by omega)), Int.sub_zero], show gV 67108864 (h.take i) + h.getD i 0 * B + 5 = (gV 67108864 (h.take i) + 5) + h.getD i 0 * B by omega, Int.add_mul_ediv_right _ _ (by omega)]
theorem rRun_range {M : Int} {h : List Int} (hM : 5 ≤ M) (hn : ∀ i, 0 ≤ h.getD i 0 ∧ h.getD i 0 ≤ M) : ∀ i, 0 ≤ rRun h i ∧ rRun h i ≤ M
  | 0 => by simp only [rRun]; omega
  | i + 1 => by
    have ih := rRun_range hM hn i
    have := hn i
    simp only [rRun]
    omega
def redL (h : List Int) : List Int := setL (h.set 0 (h.getD 0 0 + 5 * rRun h 5))
theorem redL_val {h : List Int} (hl : h.length = 5) (hn : ∀ i, 0 ≤ h.getD i 0) (hv : gV 67108864 h < 2 * (pQ : Int)) : Lim 67108863 (redL h) ∧ gV 67108864 (redL h) = gV 67108864 h % (pQ : Int) := by
  have h1 := setL_val (h := h.set 0 (h.getD 0 0 + 5 * rRun h 5)) (by simp [hl])
  refine ⟨h1.1, h1.2.trans ?_⟩
  rw [gV_set _ _ _ _ (by omega), rRun_val hl hn 5 (Nat.le_refl _), List.take_of_length_le (by omega), pow26]
  have h0 : 0 ≤ gV 67108864 h := by
    have : ∀ (zs : List Int), (∀ i, 0 ≤ zs.getD i 0) → 0 ≤ gV 67108864 zs := by
      intro zs
      induction zs with
      | nil => intro _; exact Int.le_refl _
      | cons z r ih =>
        intro h
        have h0 : 0 ≤ z := h 0
        have h1 := ih (fun i => by have := h (i + 1); simpa using this)
        simp only [gV]
        omega
    exact this h hn
  generalize gV 67108864 h = V at *
  generalize h.getD 0 0 = z
  rw [Int.pow_zero, Int.mul_one]
  clear h1 hn
  unfold pQ at *
  unfold two130
  rcases Int.lt_or_le V 1361129467683753853853498429727072845819 with h | h
  · have q : (V + 5) / 1361129467683753853853498429727072845824 = 0 := by omega
    rw [q]
    omega
  · have q : (V + 5) / 1361129467683753853853498429727072845824 = 1 := by omega
    rw [q]
    omega

/-- Carried: from each limb to the next, from the highest to the lowest, and once more from there. -/
def carL : List Int → List Int
  | [a, b, c, d, e] =>
    let b1 := b + a / 67108864
    let c1 := c + b1 / 67108864
    let d1 := d + c1 / 67108864
    let e1 := e + d1 / 67108864
    let l := a % 67108864 + 5 * (e1 / 67108864)
    [l % 67108864, b1 % 67108864 + l / 67108864, c1 % 67108864, d1 % 67108864, e1 % 67108864]
  | _ => []
/-- What is nearly settled: the second limb may have 2^7 more. -/
def Near (l : List Int) : Prop := ∃ a b c d e, l = [a, b, c, d, e] ∧ (0 ≤ a ∧ a ≤ 67108863) ∧ (0 ≤ b ∧ b ≤ 67108991) ∧ (0 ≤ c ∧ c ≤ 67108863) ∧ (0 ≤ d ∧ d ≤ 67108863) ∧ (0 ≤ e ∧ e ≤ 67108863)
theorem Near.lim {l : List Int} (h : Near l) : Lim 67108991 l := by
  obtain ⟨a, b, c, d, e, rfl, h1, h2, h3, h4, h5⟩ := h
  exact ⟨a, b, c, d, e, rfl, by omega, by omega, by omega, by omega, by omega⟩
theorem Near.zero : Near (List.replicate 5 0) := ⟨0, 0, 0, 0, 0, rfl, by omega, by omega, by omega, by omega, by omega⟩
theorem Near.below {l : List Int} (h : Near l) : gV 67108864 l < 2 * (pQ : Int) := by
  obtain ⟨a, b, c, d, e, rfl, h1, h2, h3, h4, h5⟩ := h
  rw [gV5]
  unfold pQ
  omega
theorem carL_val {a b c d e : Int} (ha : 0 ≤ a ∧ a ≤ 378302368699121664) (hb : 0 ≤ b ∧ b ≤ 378302368699121664) (hc : 0 ≤ c ∧ c ≤ 378302368699121664) (hd : 0 ≤ d ∧ d ≤ 378302368699121664) (he : 0 ≤ e ∧ e ≤ 90071992547409920) :
    Near (carL [a, b, c, d, e]) ∧ gV 67108864 (carL [a, b, c, d, e]) % (pQ : Int) = gV 67108864 [a, b, c, d, e] % (pQ : Int) := by
  unfold carL
  simp only
  obtain ⟨b1, hb1⟩ : ∃ x, x = b + a / 67108864 := ⟨_, rfl⟩
  obtain ⟨c1, hc1⟩ : ∃ x, x = c + b1 / 67108864 := ⟨_, rfl⟩
  obtain ⟨d1, hd1⟩ : ∃ x, x = d + c1 / 67108864 := ⟨_, rfl⟩
  obtain ⟨e1, he1⟩ : ∃ x, x = e + d1 / 67108864 := ⟨_, rfl⟩
  obtain ⟨l, hl⟩ : ∃ x, x = a % 67108864 + 5 * (e1 / 67108864) := ⟨_, rfl⟩
  rw [← hb1, ← hc1, ← hd1, ← he1, ← hl]
  have b2 : 0 ≤ b1 ∧ b1 ≤ 378302374400000000 := by omega
  have c2 : 0 ≤ c1 ∧ c1 ≤ 378302374400000000 := by omega
  have d2 : 0 ≤ d1 ∧ d1 ≤ 378302374400000000 := by omega
  have e2 : 0 ≤ e1 ∧ e1 ≤ 90071998300000000 := by omega
  have l2 : 0 ≤ l ∧ l ≤ 6777996000 := by omega
  refine ⟨⟨_, _, _, _, _, rfl, by omega, by omega, by omega, by omega, by omega⟩, ?_⟩
  rw [gV5, gV5]
  have key : a + 67108864 * b + 4503599627370496 * c + 302231454903657293676544 * d + 20282409603651670423947251286016 * e =
      l % 67108864 + 67108864 * (b1 % 67108864 + l / 67108864) + 4503599627370496 * (c1 % 67108864) + 302231454903657293676544 * (d1 % 67108864) + 20282409603651670423947251286016 * (e1 % 67108864) + (pQ : Int) * (e1 / 67108864) := by
    unfold pQ
    omega
  rw [key, Int.add_mul_emod_self_left]

/-- A product, limb by limb. -/
def timS (x y : List Int) : List Int :=
  match x, y with
  | [a, b, c, d, e], [f, g, h, i, j] => [a * f + b * (5 * j) + c * (5 * i) + d * (5 * h) + e * (5 * g), a * g + b * f + c * (5 * j) + d * (5 * i) + e * (5 * h), a * h + b * g + c * f + d * (5 * j) + e * (5 * i), a * i + b * h + c * g + d * f + e * (5 * j), a * j + b * i + c * h + d * g + e * f]
  | _, _ => []
def timL (x y : List Int) : List Int := carL (timS x y)
theorem mulB {x y X Y : Int} (hx : 0 ≤ x ∧ x ≤ X) (hy : 0 ≤ y ∧ y ≤ Y) : 0 ≤ x * y ∧ x * y ≤ X * Y := ⟨Int.mul_nonneg hx.1 hy.1, Int.mul_le_mul hx.2 hy.2 hy.1 (by omega)⟩
theorem tim_id (a b c d e f g h i j : Int) : gV 67108864 [a, b, c, d, e] * gV 67108864 [f, g, h, i, j] = gV 67108864 (timS [a, b, c, d, e] [f, g, h, i, j]) + (pQ : Int) * ((b * j + c * i + d * h + e * g) + 67108864 * (c * j + d * i + e * h) + 4503599627370496 * (d * j + e * i) + 302231454903657293676544 * (e * j)) := by
  unfold timS
  simp only [gV5]
  unfold pQ
  grind
theorem timL_val {x y : List Int} (hx : Lim 268435455 x) (hy : Lim 67108863 y) : Near (timL x y) ∧ gV 67108864 (timL x y) % (pQ : Int) = gV 67108864 x * gV 67108864 y % (pQ : Int) := by
  obtain ⟨a, b, c, d, e, rfl, h1, h2, h3, h4, h5⟩ := hx
  obtain ⟨f, g, h, i, j, rfl, k1, k2, k3, k4, k5⟩ := hy
  have ef : ∀ {x y : Int}, 0 ≤ x ∧ x ≤ 268435455 → 0 ≤ y ∧ y ≤ 67108863 → 0 ≤ x * y ∧ x * y ≤ 18014398509481984 ∧ x * (5 * y) = 5 * (x * y) := fun {x y} hx hy => by
    have := mulB hx hy
    refine ⟨this.1, by omega, ?_⟩
    rw [← Int.mul_assoc, Int.mul_comm x 5, Int.mul_assoc]
  have key := carL_val (a := a * f + b * (5 * j) + c * (5 * i) + d * (5 * h) + e * (5 * g)) (b := a * g + b * f + c * (5 * j) + d * (5 * i) + e * (5 * h)) (c := a * h + b * g + c * f + d * (5 * j) + e * (5 * i)) (d := a * i + b * h + c * g + d * f + e * (5 * j)) (e := a * j + b * i + c * h + d * g + e * f)
    (by have := ef h1 k1; have := ef h2 k5; have := ef h3 k4; have := ef h4 k3; have := ef h5 k2; omega)
    (by have := ef h1 k2; have := ef h2 k1; have := ef h3 k5; have := ef h4 k4; have := ef h5 k3; omega)
    (by have := ef h1 k3; have := ef h2 k2; have := ef h3 k1; have := ef h4 k5; have := ef h5 k4; omega)
    (by have := ef h1 k4; have := ef h2 k3; have := ef h3 k2; have := ef h4 k1; have := ef h5 k5; omega)
    (by have := ef h1 k5; have := ef h2 k4; have := ef h3 k3; have := ef h4 k2; have := ef h5 k1; omega)
  refine ⟨key.1, key.2.trans ?_⟩
  rw [tim_id, Int.add_mul_emod_self_left]
  rfl

end Go.Proofs.Ytelenldabjmjbaa

/- Bytes as limbs of 26 bits, and limbs as bytes. No program. Each theorem names its own conditions. -/
namespace Go.Proofs.Ytelenldabjmjbaa
open Go.RowKit
set_option linter.unusedVariables false
set_option linter.unusedSimpArgs false

/-- Seventeen bytes. -/
def D17 (zs : List Int) : Prop := zs.length = 17 ∧ ∀ i, 0 ≤ zs.getD i 0 ∧ zs.getD i 0 ≤ 255
def w4 (zs : List Int) (o : Nat) : Int := zs.getD o 0 + 256 * zs.getD (o + 1) 0 + 65536 * zs.getD (o + 2) 0 + 16777216 * zs.getD (o + 3) 0
theorem w4_val {zs : List Int} (h : D17 zs) (o : Nat) (ho : o + 4 ≤ 17) : w4 zs o = gV 256 zs / 256 ^ o % 4294967296 := by
  obtain ⟨hl, hd⟩ := h
  rw [gV_div (by omega) (by omega) (fun i hi => by have := hd i; omega)]
  have g : ∀ k, (zs.drop o).getD k 0 = zs.getD (o + k) 0 := fun k => getD_drop
  have hl2 : (zs.drop o).length = 17 - o := by rw [List.length_drop, hl]
  have h0 := hd o
  have h1 := hd (o + 1)
  have h2 := hd (o + 2)
  have h3 := hd (o + 3)
  unfold w4
  have g0 := g 0
  have g1 := g 1
  have g2 := g 2
  have g3 := g 3
  generalize zs.drop o = ys at *
  match ys, hl2 with
  | y0 :: y1 :: y2 :: y3 :: r, _ =>
    simp only [List.getD_cons_zero, List.getD_cons_succ, Nat.add_zero] at g0 g1 g2 g3
    simp only [gV]
    generalize gV 256 r = R
    omega
  | [], h => simp at h; omega
  | [_], h => simp at h; omega
  | [_, _], h => simp at h; omega
  | [_, _, _], h => simp at h; omega
/-- The limbs that bytes stand for, as they are laid. -/
def lO (zs : List Int) : Nat → List Int
  | 0 => List.replicate 5 0
  | k + 1 => (lO zs k).set k (w4 zs (26 * k / 8) / 2 ^ (26 * k % 8) % 67108864)
theorem lO_length (zs : List Int) : ∀ k, (lO zs k).length = 5
  | 0 => by simp [lO]
  | k + 1 => by rw [lO, List.length_set, lO_length zs k]
theorem lO_five (zs : List Int) : lO zs 5 = [w4 zs 0 / 1 % 67108864, w4 zs 3 / 4 % 67108864, w4 zs 6 / 16 % 67108864, w4 zs 9 / 64 % 67108864, w4 zs 13 / 1 % 67108864] := by
  simp only [lO, List.replicate, List.set]
  rfl
def limL (zs : List Int) : List Int := lO zs 5
theorem limL_val {zs : List Int} (h : D17 zs) : Lim 67108863 (limL zs) ∧ gV 67108864 (limL zs) = gV 256 zs % two130 := by
  have e0 := w4_val h 0 (by omega)
  have e1 := w4_val h 3 (by omega)
  have e2 := w4_val h 6 (by omega)
  have e3 := w4_val h 9 (by omega)
  have e4 := w4_val h 13 (by omega)
  have hN : 0 ≤ gV 256 zs := gV_nonneg (fun i => (h.2 i).1)
  unfold limL
  rw [lO_five, e0, e1, e2, e3, e4]
  rw [show (256 : Int) ^ 0 = 1 from rfl, show (256 : Int) ^ 3 = 16777216 from rfl, show (256 : Int) ^ 6 = 281474976710656 from by decide +kernel, show (256 : Int) ^ 9 = 4722366482869645213696 from by decide +kernel, show (256 : Int) ^ 13 = 20282409603651670423947251286016 from by decide +kernel]
  generalize gV 256 zs = N at *
  clear e0 e1 e2 e3 e4 h
  have f0 : N / 1 % 4294967296 / 1 % 67108864 = N % 67108864 := by omega
  have f1 : N / 16777216 % 4294967296 / 4 % 67108864 = N / 67108864 % 67108864 := by omega
  have f2 : N / 281474976710656 % 4294967296 / 16 % 67108864 = N / 4503599627370496 % 67108864 := by omega
  have f3 : N / 4722366482869645213696 % 4294967296 / 64 % 67108864 = N / 302231454903657293676544 % 67108864 := by omega
  have f4 : N / 20282409603651670423947251286016 % 4294967296 / 1 % 67108864 = N / 20282409603651670423947251286016 % 67108864 := by omega
  rw [f0, f1, f2, f3, f4]
  refine ⟨⟨_, _, _, _, _, rfl, by omega, by omega, by omega, by omega, by omega⟩, ?_⟩
  rw [gV5]
  unfold two130
  clear f0 f1 f2 f3 f4
  omega

theorem or_fin2 : ∀ (x : Fin 4) (y : Fin 64), bits .or .u8 (x.val : Int) ((y.val : Int) * 4) = (x.val : Int) + (y.val : Int) * 4 := by decide +kernel
theorem or_fin4 : ∀ (x : Fin 16) (y : Fin 16), bits .or .u8 (x.val : Int) ((y.val : Int) * 16) = (x.val : Int) + (y.val : Int) * 16 := by decide +kernel
theorem or_fin6 : ∀ (x : Fin 64) (y : Fin 4), bits .or .u8 (x.val : Int) ((y.val : Int) * 64) = (x.val : Int) + (y.val : Int) * 64 := by decide +kernel
theorem or_fin8 : ∀ (y : Fin 256), bits .or .u8 0 (y.val : Int) = (y.val : Int) := by decide +kernel
theorem or_0 {y : Int} (h : 0 ≤ y ∧ y < 256) : bits .or .u8 0 y = y := by
  obtain ⟨n, rfl⟩ : ∃ n : Nat, y = (n : Int) := ⟨y.toNat, by omega⟩
  exact or_fin8 ⟨n, by omega⟩
theorem or_2 {x y : Int} (hx : 0 ≤ x ∧ x < 4) (hy : 0 ≤ y ∧ y < 64) : bits .or .u8 x (y * 4) = x + y * 4 := by
  obtain ⟨m, rfl⟩ : ∃ n : Nat, x = (n : Int) := ⟨x.toNat, by omega⟩
  obtain ⟨n, rfl⟩ : ∃ n : Nat, y = (n : Int) := ⟨y.toNat, by omega⟩
  exact or_fin2 ⟨m, by omega⟩ ⟨n, by omega⟩
theorem or_4 {x y : Int} (hx : 0 ≤ x ∧ x < 16) (hy : 0 ≤ y ∧ y < 16) : bits .or .u8 x (y * 16) = x + y * 16 := by
  obtain ⟨m, rfl⟩ : ∃ n : Nat, x = (n : Int) := ⟨x.toNat, by omega⟩
  obtain ⟨n, rfl⟩ : ∃ n : Nat, y = (n : Int) := ⟨y.toNat, by omega⟩
  exact or_fin4 ⟨m, by omega⟩ ⟨n, by omega⟩
theorem or_6 {x y : Int} (hx : 0 ≤ x ∧ x < 64) (hy : 0 ≤ y ∧ y < 4) : bits .or .u8 x (y * 64) = x + y * 64 := by
  obtain ⟨m, rfl⟩ : ∃ n : Nat, x = (n : Int) := ⟨x.toNat, by omega⟩
  obtain ⟨n, rfl⟩ : ∃ n : Nat, y = (n : Int) := ⟨y.toNat, by omega⟩
  exact or_fin6 ⟨m, by omega⟩ ⟨n, by omega⟩
/-- A limb's four bytes, from the byte q on, so many bits up; n of them. -/
def oN (c : List Int) (z : Int) (q s : Nat) : Nat → List Int
  | 0 => c
  | n + 1 => (oN c z q s n).set (q + n) (bits .or .u8 ((oN c z q s n).getD (q + n) 0) (z * 2 ^ s / 2 ^ (8 * n) % 256))
theorem oN_length (c : List Int) (z : Int) (q s : Nat) : ∀ n, (oN c z q s n).length = c.length
  | 0 => rfl
  | n + 1 => by rw [oN, List.length_set, oN_length c z q s n]
/-- The bytes of limbs, i of these laid. -/
def oI (x : List Int) : Nat → List Int
  | 0 => List.replicate 17 0
  | i + 1 => oN (oI x i) (x.getD i 0) (26 * i / 8) (26 * i % 8) 4
theorem oI_length (x : List Int) : ∀ i, (oI x i).length = 17
  | 0 => by simp [oI]
  | i + 1 => by rw [oI, oN_length, oI_length x i]
theorem oN4 (c : List Int) (z : Int) (q s : Nat) : oN c z q s 4 = (((c.set q (bits .or .u8 (c.getD q 0) (z * 2 ^ s % 256))).set (q + 1) (bits .or .u8 (c.getD (q + 1) 0) (z * 2 ^ s / 256 % 256))).set (q + 2) (bits .or .u8 (c.getD (q + 2) 0) (z * 2 ^ s / 65536 % 256))).set (q + 3) (bits .or .u8 (c.getD (q + 3) 0) (z * 2 ^ s / 16777216 % 256)) := by
  simp only [oN]
  rw [getD_set_far (by omega), getD_set_far (by omega), getD_set_far (by omega), getD_set_far (by omega), getD_set_far (by omega), getD_set_far (by omega)]
  rw [show (2 : Int) ^ (8 * 0) = 1 from rfl, show (2 : Int) ^ (8 * 1) = 256 from rfl, show (2 : Int) ^ (8 * 2) = 65536 from rfl, show (2 : Int) ^ (8 * 3) = 16777216 from rfl, Int.ediv_one, Nat.add_zero]
def ou (x y : Int) : Int := bits .or .u8 x y
theorem oN_0 (c0 c1 c2 c3 c4 c5 c6 c7 c8 c9 c10 c11 c12 c13 c14 c15 c16 z : Int) : oN [c0, c1, c2, c3, c4, c5, c6, c7, c8, c9, c10, c11, c12, c13, c14, c15, c16] z 0 0 4 = [(ou c0 (z * 2 ^ 0 % 256)), (ou c1 (z * 2 ^ 0 / 256 % 256)), (ou c2 (z * 2 ^ 0 / 65536 % 256)), (ou c3 (z * 2 ^ 0 / 16777216 % 256)), c4, c5, c6, c7, c8, c9, c10, c11, c12, c13, c14, c15, c16] := by
  rw [oN4]
  rfl
theorem oN_3 (c0 c1 c2 c3 c4 c5 c6 c7 c8 c9 c10 c11 c12 c13 c14 c15 c16 z : Int) : oN [c0, c1, c2, c3, c4, c5, c6, c7, c8, c9, c10, c11, c12, c13, c14, c15, c16] z 3 2 4 = [c0, c1, c2, (ou c3 (z * 2 ^ 2 % 256)), (ou c4 (z * 2 ^ 2 / 256 % 256)), (ou c5 (z * 2 ^ 2 / 65536 % 256)), (ou c6 (z * 2 ^ 2 / 16777216 % 256)), c7, c8, c9, c10, c11, c12, c13, c14, c15, c16] := by
  rw [oN4]
  rfl
theorem oN_6 (c0 c1 c2 c3 c4 c5 c6 c7 c8 c9 c10 c11 c12 c13 c14 c15 c16 z : Int) : oN [c0, c1, c2, c3, c4, c5, c6, c7, c8, c9, c10, c11, c12, c13, c14, c15, c16] z 6 4 4 = [c0, c1, c2, c3, c4, c5, (ou c6 (z * 2 ^ 4 % 256)), (ou c7 (z * 2 ^ 4 / 256 % 256)), (ou c8 (z * 2 ^ 4 / 65536 % 256)), (ou c9 (z * 2 ^ 4 / 16777216 % 256)), c10, c11, c12, c13, c14, c15, c16] := by
  rw [oN4]
  rfl
theorem oN_9 (c0 c1 c2 c3 c4 c5 c6 c7 c8 c9 c10 c11 c12 c13 c14 c15 c16 z : Int) : oN [c0, c1, c2, c3, c4, c5, c6, c7, c8, c9, c10, c11, c12, c13, c14, c15, c16] z 9 6 4 = [c0, c1, c2, c3, c4, c5, c6, c7, c8, (ou c9 (z * 2 ^ 6 % 256)), (ou c10 (z * 2 ^ 6 / 256 % 256)), (ou c11 (z * 2 ^ 6 / 65536 % 256)), (ou c12 (z * 2 ^ 6 / 16777216 % 256)), c13, c14, c15, c16] := by
  rw [oN4]
  rfl
theorem oN_13 (c0 c1 c2 c3 c4 c5 c6 c7 c8 c9 c10 c11 c12 c13 c14 c15 c16 z : Int) : oN [c0, c1, c2, c3, c4, c5, c6, c7, c8, c9, c10, c11, c12, c13, c14, c15, c16] z 13 0 4 = [c0, c1, c2, c3, c4, c5, c6, c7, c8, c9, c10, c11, c12, (ou c13 (z * 2 ^ 0 % 256)), (ou c14 (z * 2 ^ 0 / 256 % 256)), (ou c15 (z * 2 ^ 0 / 65536 % 256)), (ou c16 (z * 2 ^ 0 / 16777216 % 256))] := by
  rw [oN4]
  rfl
theorem oI_five (a b c d e : Int) : oI [a, b, c, d, e] 5 = [ou 0 (a * 2 ^ 0 % 256), ou 0 (a * 2 ^ 0 / 256 % 256), ou 0 (a * 2 ^ 0 / 65536 % 256), ou (ou 0 (a * 2 ^ 0 / 16777216 % 256)) (b * 2 ^ 2 % 256), ou 0 (b * 2 ^ 2 / 256 % 256), ou 0 (b * 2 ^ 2 / 65536 % 256),
    ou (ou 0 (b * 2 ^ 2 / 16777216 % 256)) (c * 2 ^ 4 % 256), ou 0 (c * 2 ^ 4 / 256 % 256), ou 0 (c * 2 ^ 4 / 65536 % 256), ou (ou 0 (c * 2 ^ 4 / 16777216 % 256)) (d * 2 ^ 6 % 256), ou 0 (d * 2 ^ 6 / 256 % 256), ou 0 (d * 2 ^ 6 / 65536 % 256), ou 0 (d * 2 ^ 6 / 16777216 % 256),
    ou 0 (e * 2 ^ 0 % 256), ou 0 (e * 2 ^ 0 / 256 % 256), ou 0 (e * 2 ^ 0 / 65536 % 256), ou 0 (e * 2 ^ 0 / 16777216 % 256)] := by
  show oN (oN (oN (oN (oN [0, 0, 0, 0, 0, 0, 0, 0, 0, 0, 0, 0, 0, 0, 0, 0, 0] a 0 0 4) b 3 2 4) c 6 4 4) d 9 6 4) e 13 0 4 = _
  rw [oN_0, oN_3, oN_6, oN_9, oN_13]
def blkL (x : List Int) : List Int := oI x 5
theorem blkL_val {x : List Int} (hx : Lim 67108863 x) : D17 (blkL x) ∧ gV 256 (blkL x) = gV 67108864 x := by
  obtain ⟨a, b, c, d, e, rfl, h1, h2, h3, h4, h5⟩ := hx
  have e0 : (2 : Int) ^ 0 = 1 := rfl
  have e2 : (2 : Int) ^ 2 = 4 := rfl
  have e4 : (2 : Int) ^ 4 = 16 := rfl
  have e6 : (2 : Int) ^ 6 = 64 := rfl
  have hb : b * 4 % 256 = b % 64 * 4 := by omega
  have hc : c * 16 % 256 = c % 16 * 16 := by omega
  have hd : d * 64 % 256 = d % 4 * 64 := by omega
  have key : blkL [a, b, c, d, e] = [a % 256, a / 256 % 256, a / 65536 % 256, a / 16777216 % 256 + b % 64 * 4, b * 4 / 256 % 256, b * 4 / 65536 % 256, b * 4 / 16777216 % 256 + c % 16 * 16, c * 16 / 256 % 256, c * 16 / 65536 % 256, c * 16 / 16777216 % 256 + d % 4 * 64, d * 64 / 256 % 256, d * 64 / 65536 % 256, d * 64 / 16777216 % 256,
      e % 256, e / 256 % 256, e / 65536 % 256, e / 16777216 % 256] := by
    unfold blkL
    rw [oI_five, e0, e2, e4, e6]
    unfold ou
    simp only [Int.mul_one]
    rw [hb, hc, hd]
    have o : ∀ y : Int, bits .or .u8 0 (y % 256) = y % 256 := fun y => or_0 (by omega)
    simp only [o]
    rw [or_2 (by omega) (by omega), or_4 (by omega) (by omega), or_6 (by omega) (by omega)]
  rw [key]
  clear key hb hc hd e0 e2 e4 e6
  refine ⟨⟨rfl, fun i => ?_⟩, ?_⟩
  · match i with
    | 0 => simp only [List.getD_cons_zero]; omega
    | 1 => simp only [List.getD_cons_zero, List.getD_cons_succ]; omega
    | 2 => simp only [List.getD_cons_zero, List.getD_cons_succ]; omega
    | 3 => simp only [List.getD_cons_zero, List.getD_cons_succ]; omega
    | 4 => simp only [List.getD_cons_zero, List.getD_cons_succ]; omega
    | 5 => simp only [List.getD_cons_zero, List.getD_cons_succ]; omega
    | 6 => simp only [List.getD_cons_zero, List.getD_cons_succ]; omega
    | 7 => simp only [List.getD_cons_zero, List.getD_cons_succ]; omega
    | 8 => simp only [List.getD_cons_zero, List.getD_cons_succ]; omega
    | 9 => simp only [List.getD_cons_zero, List.getD_cons_succ]; omega
    | 10 => simp only [List.getD_cons_zero, List.getD_cons_succ]; omega
    | 11 => simp only [List.getD_cons_zero, List.getD_cons_succ]; omega
    | 12 => simp only [List.getD_cons_zero, List.getD_cons_succ]; omega
    | 13 => simp only [List.getD_cons_zero, List.getD_cons_succ]; omega
    | 14 => simp only [List.getD_cons_zero, List.getD_cons_succ]; omega
    | 15 => simp only [List.getD_cons_zero, List.getD_cons_succ]; omega
    | 16 => simp only [List.getD_cons_zero, List.getD_cons_succ]; omega
    | n + 17 => simp
  · rw [gV5]
    have ha : a = a % 256 + 256 * (a / 256 % 256) + 65536 * (a / 65536 % 256) + 16777216 * (a / 16777216 % 256) := by omega
    have hb : b = b % 64 + 64 * (b * 4 / 256 % 256) + 16384 * (b * 4 / 65536 % 256) + 4194304 * (b * 4 / 16777216 % 256) := by omega
    have hc : c = c % 16 + 16 * (c * 16 / 256 % 256) + 4096 * (c * 16 / 65536 % 256) + 1048576 * (c * 16 / 16777216 % 256) := by omega
    have hd : d = d % 4 + 4 * (d * 64 / 256 % 256) + 1024 * (d * 64 / 65536 % 256) + 262144 * (d * 64 / 16777216 % 256) := by omega
    have he : e = e % 256 + 256 * (e / 256 % 256) + 65536 * (e / 65536 % 256) + 16777216 * (e / 16777216 % 256) := by omega
    simp only [gV]
    generalize a % 256 = a0 at *
    generalize a / 256 % 256 = a1 at *
    generalize a / 65536 % 256 = a2 at *
    generalize a / 16777216 % 256 = a3 at *
    generalize b % 64 = b0 at *
    generalize b * 4 / 256 % 256 = b1 at *
    generalize b * 4 / 65536 % 256 = b2 at *
    generalize b * 4 / 16777216 % 256 = b3 at *
    generalize c % 16 = c0 at *
    generalize c * 16 / 256 % 256 = c1 at *
    generalize c * 16 / 65536 % 256 = c2 at *
    generalize c * 16 / 16777216 % 256 = c3 at *
    generalize d % 4 = d0 at *
    generalize d * 64 / 256 % 256 = d1 at *
    generalize d * 64 / 65536 % 256 = d2 at *
    generalize d * 64 / 16777216 % 256 = d3 at *
    generalize e % 256 = f0 at *
    generalize e / 256 % 256 = f1 at *
    generalize e / 65536 % 256 = f2 at *
    generalize e / 16777216 % 256 = f3 at *
    clear h1 h2 h3 h4 h5
    omega

end Go.Proofs.Ytelenldabjmjbaa

/- What package poly folds of a message, and its tag. No program. Each theorem names its own conditions. -/
namespace Go.Proofs.Ytelenldabjmjbaa
open Go.RowKit
set_option linter.unusedVariables false
set_option linter.unusedSimpArgs false

def iB (l : List UInt8) : List Int := l.map fun b => (b.toNat : Int)
theorem iB_length (l : List UInt8) : (iB l).length = l.length := by simp [iB]
theorem iB_getD (l : List UInt8) (i : Nat) : (iB l).getD i 0 = ((l.getD i 0).toNat : Int) := by
  simp only [iB, List.getD_eq_getElem?_getD, List.getElem?_map]
  rcases h : l[i]? with _ | b <;> rfl
theorem bval_ints (l : List UInt8) : l.map bval = ints .u8 (iB l) := by
  unfold ints iB
  rw [List.map_map]
  rfl
theorem D17_iB {l : List UInt8} (h : l.length = 17) : D17 (iB l) := ⟨by rw [iB_length, h], fun i => by
  rw [iB_getD]
  have := (l.getD i 0).toNat_lt
  omega⟩
/-- A piece of a message, the 1 behind it, and noughts. -/
def onB (c : List UInt8) : List UInt8 := c ++ (1 :: List.replicate (16 - c.length) 0)
theorem onB_length {c : List UInt8} (h : c.length ≤ 16) : (onB c).length = 17 := by
  unfold onB
  simp
  omega
theorem onB_val (c : List UInt8) : gV 256 (iB (onB c)) = ((leN c : Nat) : Int) + 256 ^ c.length := by
  unfold iB onB
  rw [List.map_append, gV_append, gV_bytes, List.length_map]
  have e : (List.map (fun b : UInt8 => (b.toNat : Int)) (1 :: List.replicate (16 - c.length) 0)) = 1 :: List.replicate (16 - c.length) 0 := by simp
  rw [e, gV, gV_zeros, Int.mul_zero, Int.add_zero, Int.mul_one]
theorem piece_len (m : List UInt8) (n : Nat) : ((m.drop (16 * n)).take 16).length = min 16 (m.length - 16 * n) := by rw [List.length_take, List.length_drop]
theorem onB_blk (m : List UInt8) (n : Nat) : gV 256 (iB (onB ((m.drop (16 * n)).take 16))) = pBlk m n := by
  rw [onB_val, piece_len]
  rfl
theorem pBlk_range (m : List UInt8) (n : Nat) : 0 ≤ pBlk m n ∧ pBlk m n < two130 := by
  have h1 := leN_lt ((m.drop (16 * n)).take 16)
  have hl := piece_len m n
  have h2 : 256 ^ ((m.drop (16 * n)).take 16).length ≤ 256 ^ 16 := Nat.pow_le_pow_right (by omega) (by omega)
  have h3 : pBlk m n = (((leN ((m.drop (16 * n)).take 16)) + 256 ^ ((m.drop (16 * n)).take 16).length : Nat) : Int) := by
    unfold pBlk
    rw [hl]
    simp
  rw [h3]
  generalize leN ((m.drop (16 * n)).take 16) = a at *
  generalize 256 ^ ((m.drop (16 * n)).take 16).length = b at *
  have h4 : (256 ^ 16 : Nat) = 340282366920938463463374607431768211456 := by decide +kernel
  rw [h4] at h2
  unfold two130
  omega
theorem pDigit_le (key : List UInt8) (i : Nat) : pDigit key i ≤ 255 := by
  unfold pDigit
  have := (key.getD i 0).toNat_lt
  split
  · omega
  · split <;> omega
theorem pR_range (key : List UInt8) : 0 ≤ pR key ∧ pR key < 340282366920938463463374607431768211456 := by
  have h := gV_range (B := 256) (by omega) (zs := pDigits key) (fun i hi => by
    rw [pDigits_length] at hi
    rw [pDigits_getD key hi]
    have := pDigit_le key i
    omega)
  rw [pDigits_length, pow_16] at h
  exact h
theorem D17_rC (key : List UInt8) : D17 (rC key 3) := ⟨rC_length key 3, fun i => rC_digit key 3 i (by omega)⟩
def rL (key : List UInt8) : List Int := limL (rC key 3)
theorem rL_val (key : List UInt8) : Lim 67108863 (rL key) ∧ gV 67108864 (rL key) = pR key := by
  obtain ⟨h1, h2⟩ := limL_val (D17_rC key)
  refine ⟨h1, h2.trans ?_⟩
  rw [rC_val]
  have := pR_range key
  unfold two130
  exact Int.emod_eq_of_lt this.1 (by omega)
/-- The message as limbs, n blocks of it. -/
def fL (R : List Int) (m : List UInt8) : Nat → List Int
  | 0 => List.replicate 5 0
  | n + 1 => timL (addL (fL R m n) (limL (iB (onB ((m.drop (16 * n)).take 16))))) R
theorem blk_lim (m : List UInt8) (n : Nat) : Lim 67108863 (limL (iB (onB ((m.drop (16 * n)).take 16)))) ∧ gV 67108864 (limL (iB (onB ((m.drop (16 * n)).take 16)))) = pBlk m n := by
  obtain ⟨h1, h2⟩ := limL_val (D17_iB (onB_length (c := (m.drop (16 * n)).take 16) (by rw [piece_len]; omega)))
  refine ⟨h1, h2.trans ?_⟩
  rw [onB_blk]
  have := pBlk_range m n
  exact Int.emod_eq_of_lt this.1 this.2
theorem fL_val (key m : List UInt8) : ∀ n, Near (fL (rL key) m n) ∧ gV 67108864 (fL (rL key) m n) % (pQ : Int) = pAcc (pR key) m n
  | 0 => ⟨Near.zero, by rw [fL, gV_zeros]; rfl⟩
  | n + 1 => by
    obtain ⟨h1, h2⟩ := fL_val key m n
    obtain ⟨b1, b2⟩ := blk_lim m n
    obtain ⟨r1, r2⟩ := rL_val key
    obtain ⟨a1, a2⟩ := addL_val h1.lim b1
    obtain ⟨t1, t2⟩ := timL_val (a1.up (by omega)) r1
    rw [fL]
    refine ⟨t1, t2.trans ?_⟩
    rw [a2, b2, r2, pAcc, ← h2]
    generalize gV 67108864 (fL (rL key) m n) = V
    have e : (V % (pQ : Int) + pBlk m n) % (pQ : Int) = (V + pBlk m n) % (pQ : Int) := by rw [Int.add_emod, Int.emod_emod, ← Int.add_emod]
    rw [Int.mul_emod, ← e, ← Int.mul_emod]
/-- The tag's bytes. -/
def sL (key : List UInt8) : List Int := limL (iB ((key.drop 16).take 16 ++ [0]))
def outL (key m : List UInt8) : List Int := setL (addL (redL (fL (rL key) m ((m.length + 15) / 16))) (sL key))
theorem iB_snoc (l : List UInt8) : gV 256 (iB (l ++ [0])) = ((leN l : Nat) : Int) := by
  unfold iB
  rw [List.map_append, gV_append, gV_bytes]
  simp [gV]
theorem sL_val {key : List UInt8} (hk : key.length = 32) : Lim 67108863 (sL key) ∧ gV 67108864 (sL key) = (pS key : Int) := by
  have hl : ((key.drop 16).take 16).length = 16 := by rw [List.length_take, List.length_drop]; omega
  obtain ⟨h1, h2⟩ := limL_val (D17_iB (l := (key.drop 16).take 16 ++ [0]) (by rw [List.length_append, hl]; rfl))
  refine ⟨h1, h2.trans ?_⟩
  rw [iB_snoc]
  have h3 := leN_lt ((key.drop 16).take 16)
  rw [hl, show (256 ^ 16 : Nat) = 340282366920938463463374607431768211456 from by decide +kernel] at h3
  unfold two130 pS
  exact Int.emod_eq_of_lt (by omega) (by omega)
theorem outL_val {key m : List UInt8} (hk : key.length = 32) : Lim 67108863 (outL key m) ∧ gV 67108864 (outL key m) = (pNum key m + pS key) % two130 := by
  obtain ⟨f1, f2⟩ := fL_val key m ((m.length + 15) / 16)
  obtain ⟨s1, s2⟩ := sL_val hk
  obtain ⟨r1, r2⟩ := redL_val f1.lim.len (fun i => (f1.lim.getD (by omega) i).1) f1.below
  obtain ⟨a1, a2⟩ := addL_val r1 s1
  obtain ⟨o1, o2⟩ := setL_val a1.len
  refine ⟨o1, o2.trans ?_⟩
  rw [a2, r2, f2, s2]
  rfl
theorem take16 (X : Nat) : (bytesN 17 X).take 16 = bytesN 16 X := by
  have e : bytesN 17 X = bytesN 16 X ++ bytesN 1 (X / 256 ^ 16) := bytesN_append 16 1 X
  rw [e, List.take_append_of_le_length (by rw [bytesN_length]; omega), List.take_of_length_le (by rw [bytesN_length]; omega)]
theorem mod16 (N K : Nat) (hK : K = 4 * 256 ^ 16) : bytesN 16 (N % K) = bytesN 16 N := by
  rw [← bytesN_mod 16 (N % K), ← bytesN_mod 16 N, hK]
  congr 1
  generalize (256 : Nat) ^ 16 = B
  exact Nat.mod_mul_left_mod _ _ _
/-- The code's tag is the document's. -/
theorem tag_bytes {key m : List UInt8} (hk : key.length = 32) : ∃ l : List UInt8, l.length = 17 ∧ blkL (outL key m) = iB l ∧ l.take 16 = polyTag key m := by
  obtain ⟨o1, o2⟩ := outL_val (m := m) hk
  obtain ⟨b1, b2⟩ := blkL_val o1
  have hp := (pAcc_range (pR key) m ((m.length + 15) / 16)).1
  have hnum : 0 ≤ pNum key m := hp
  obtain ⟨N, hN⟩ : ∃ N : Nat, (pNum key m + pS key) = (N : Int) := ⟨(pNum key m + pS key).toNat, by omega⟩
  rw [hN] at o2
  have e0 : ((1361129467683753853853498429727072845824 : Nat) : Int) = two130 := by decide +kernel
  have e : blkL (outL key m) = dig 17 (N % 1361129467683753853853498429727072845824) := dig_of b1.1 (fun i hi => by have := b1.2 i; omega) (by
    rw [b2, o2, Int.natCast_emod, e0])
  refine ⟨bytesN 17 (N % 1361129467683753853853498429727072845824), bytesN_length _ _, e, ?_⟩
  unfold polyTag
  rw [hN, Int.toNat_natCast, take16]
  exact mod16 N _ (by decide +kernel)

end Go.Proofs.Ytelenldabjmjbaa

/- What a byte takes. -/
namespace Go.Proofs.Ytelenldabjmjbaa

theorem Try.info5 : (Try.prog.info? 5).map (fun i => (i.zero, i.size, i.bytes)) = some (some (.int .u8 0), 1, 1) := by kernel_rfl

end Go.Proofs.Ytelenldabjmjbaa

/- A drawn region all of whose operations read, reckon or call what leaves old memory alone: one walk of the text's order, under the kit's own light test. Nothing here speaks of a program. Each theorem names its own conditions. -/
namespace Go.Proofs.Ytelenldabjmjbaa
open Go.RowKit
set_option linter.unusedVariables false

section
variable {P : Program} {ops : Array Oper} {Q : Exit → Act → World → Prop}

theorem quietAt_ext {o : Oper} {a : Act} {w w' : World} {v : Value} (he : Ext w w') (h : o.quietAt P a (Ext w') w' v) : o.quietAt P a (Ext w) w' v := by
  unfold Oper.quietAt at *
  generalize (execOp a.eval o).run P w' = r at *
  cases r with
  | halt x w2 => exact h.elim
  | ok n w2 =>
    cases n <;> simp only [Oper.quietUpon] at h ⊢
    case value u => exact h
    case skip => exact h
    case enter f args => exact ⟨h.1, h.2.mono fun e w3 h3 => ⟨h3.1, he.trans h3.2⟩⟩

theorem quiet_of_det {w : World} {D : Act → Prop} : ∀ (l : List Oper) (a : Act), wpDet P ops (Ext w) D l a → wpQuiet P ops (Ext w) D l a
  | [], _, h => h
  | o :: l, a, h => by
    unfold wpQuiet
    split
    · rename_i hw
      obtain ⟨v, h1, h2⟩ := h.1 hw
      exact ⟨v, fun w' hw' => quietAt_ext hw' (h1 w' hw'), quiet_of_det l _ h2⟩
    · rename_i hw
      exact quiet_of_det l _ (h.2 (by simpa using hw))

theorem wp_region_all {id : Nat} {a : Act} {w : World} (hm : P.follows .mixedOrders = true) (hB : Region.lexB .any ops = true)
    (h : wpDet P ops (Ext w) (fun a' => ∀ w', Ext w w' → Q .normal a' w') ops.toList a) : (Code.region id ops true).wp P Q a w :=
  wp_region_quiet (C := Ext w) hm hB (Ext.drew w) (quiet_of_det _ _ h)
end

end Go.Proofs.Ytelenldabjmjbaa

/- Further ends of a drawn region: two variables made in whatever order; a store and an assignment. Nothing here speaks of a program. Each theorem names its own conditions. -/
namespace Go.Proofs.Ytelenldabjmjbaa
open Go.RowKit
set_option linter.unusedVariables false

section
variable {P : Program} {ops : Array Oper} {Q : Exit → Act → World → Prop} {md : Region.Mode} {t : Nat} {C : World → Prop} {D : Act → Prop}

theorem run_alloc_zero {o : Oper} {a : Act} {ty : TypeId} {zs : List Value} (ho : o.op = .alloc ty) (hz : ∀ w, (zeroValue ty).run P w = .ok (.agg zs.toArray) w) (w : World) :
    (execOp a.eval o).run P w = .ok (.value (.pointer (some ⟨w.heap.size, 0, none⟩))) (w.alloc (.cells zs.toArray ty)) := by
  unfold execOp
  simp [ho, Instr.alloc, hz, newVar, newRow, Value.cells]

/-- The two stores into two variables that stand apart. -/
theorem two_stores {k : Nat} {o3 o4 : Oper} {listed : Array Bool} {a : Act} {w w' : World} (ty : TypeId) (d1 d2 p q : Nat) (y1 y2 : Operand) (zs vs1 vs2 : List Value) (hk3 : ops[k]? = some o3) (hk4 : ops[k + 1]? = some o4)
    (hr : Region.ready md ops listed = [k]) (hr2 : Region.ready md ops (listed.setIfInBounds k true) = [k + 1]) (hr3 : Region.ready md ops ((listed.setIfInBounds k true).setIfInBounds (k + 1) true) = [])
    (hg3 : o3.guard = none) (hg4 : o4.guard = none) (ho3 : o3.op = .store ty (.tmp d1) y1) (ho4 : o4.op = .store ty (.tmp d2) y2) (hn3 : o3.dst = none) (hn4 : o4.dst = none)
    (hx1 : a.eval (.tmp d1) = .pointer (some ⟨p, 0, none⟩)) (hx2 : a.eval (.tmp d2) = .pointer (some ⟨q, 0, none⟩)) (hy1 : a.eval y1 = .agg vs1.toArray) (hy2 : a.eval y2 = .agg vs2.toArray) (hpq : p ≠ q)
    (hb1 : Blk w' p zs ty) (hb2 : Blk w' q zs ty) (hl1 : vs1.length = zs.length) (hl2 : vs2.length = zs.length) (hi1 : (P.info? ty).map (·.size) = some vs1.length) (hi2 : (P.info? ty).map (·.size) = some vs2.length)
    (h1 : ∀ v ∈ vs1, v.oneCell' = true) (h2 : ∀ v ∈ vs2, v.oneCell' = true) (he : Ext w w') (hp : w.heap.size ≤ p) (hq : w.heap.size ≤ q)
    (h : ∀ w4, Blk w4 p vs1 ty → Blk w4 q vs2 ty → Ext w w4 → Q .normal a w4) : wpAny P md ops Q 2 listed a w' := by
  refine ⟨fun h0 => (by rw [hr] at h0; cases h0), fun i hi => ?_⟩
  rw [hr] at hi
  obtain rfl : i = k := by simpa using hi
  unfold wpOp
  simp only [hk3, Region.wanted, hg3, if_true]
  left
  refine wp_store_blk ty (.tmp d1) y1 ho3 p vs1 hx1 hy1 ty zs hb1 hl1 hi1 h1 fun w2 hb3 hg => ?_
  rw [hn3]
  refine ⟨fun h0 => (by rw [hr2] at h0; cases h0), fun j hj => ?_⟩
  rw [hr2] at hj
  obtain rfl : j = i + 1 := by simpa using hj
  unfold wpOp
  simp only [hk4, Region.wanted, hg4, if_true]
  left
  refine wp_store_blk ty (.tmp d2) y2 ho4 q vs2 hx2 hy2 ty zs (hb2.grown hg (by simpa using hpq)) hl2 hi2 h2 fun w4 hb4 hg4 => ?_
  rw [hn4]
  exact ⟨hr3, h w4 (hb3.grown hg4 (by simpa using fun e => hpq e.symm)) hb4 (ext_grown (ext_grown he hg hp) hg4 hq)⟩

/-- Two variables are made, in whatever order, and a whole array stored into each: the region's end. -/
theorem end_var2 {k : Nat} {o1 o2 o3 o4 : Oper} {listed : Array Bool} {a : Act} {w : World} (ty : TypeId) (d1 d2 : Nat) (y1 y2 : Operand) (zs vs1 vs2 : List Value)
    (hk1 : ops[k]? = some o1) (hk2 : ops[k + 1]? = some o2) (hk3 : ops[k + 2]? = some o3) (hk4 : ops[k + 2 + 1]? = some o4)
    (hr : Region.ready md ops listed = [k, k + 1]) (hr1 : Region.ready md ops (listed.setIfInBounds k true) = [k + 1]) (hr2 : Region.ready md ops (listed.setIfInBounds (k + 1) true) = [k])
    (hr3 : Region.ready md ops ((listed.setIfInBounds k true).setIfInBounds (k + 1) true) = [k + 2]) (hr4 : Region.ready md ops (((listed.setIfInBounds k true).setIfInBounds (k + 1) true).setIfInBounds (k + 2) true) = [k + 2 + 1])
    (hr5 : Region.ready md ops ((((listed.setIfInBounds k true).setIfInBounds (k + 1) true).setIfInBounds (k + 2) true).setIfInBounds (k + 2 + 1) true) = [])
    (hd : doneB t listed = false) (hd1 : doneB t (listed.setIfInBounds k true) = false) (hd2 : doneB t (listed.setIfInBounds (k + 1) true) = false) (hd3 : doneB t ((listed.setIfInBounds k true).setIfInBounds (k + 1) true) = true)
    (hg1 : o1.guard = none) (hg2 : o2.guard = none) (hg3 : o3.guard = none) (hg4 : o4.guard = none) (ho1 : o1.op = .alloc ty) (ho2 : o2.op = .alloc ty) (hd1' : o1.dst = some d1) (hd2' : o2.dst = some d2) (hdd : d1 ≠ d2)
    (hz : ∀ w, (zeroValue ty).run P w = .ok (.agg zs.toArray) w) (ho3 : o3.op = .store ty (.tmp d1) y1) (ho4 : o4.op = .store ty (.tmp d2) y2) (hn3 : o3.dst = none) (hn4 : o4.dst = none) (hs1 : d1 < a.tmps.size) (hs2 : d2 < a.tmps.size)
    (hy1 : ∀ p q, ((a.put (some d1) (.pointer (some ⟨p, 0, none⟩))).put (some d2) (.pointer (some ⟨q, 0, none⟩))).eval y1 = .agg vs1.toArray)
    (hy2 : ∀ p q, ((a.put (some d1) (.pointer (some ⟨p, 0, none⟩))).put (some d2) (.pointer (some ⟨q, 0, none⟩))).eval y2 = .agg vs2.toArray)
    (hl1 : vs1.length = zs.length) (hl2 : vs2.length = zs.length) (hi1 : (P.info? ty).map (·.size) = some vs1.length) (hi2 : (P.info? ty).map (·.size) = some vs2.length) (h1 : ∀ v ∈ vs1, v.oneCell' = true) (h2 : ∀ v ∈ vs2, v.oneCell' = true)
    (h : ∀ p q w', p ≠ q → w.heap.size ≤ p → w.heap.size ≤ q → Blk w' p vs1 ty → Blk w' q vs2 ty → Ext w w' → Q .normal ((a.put (some d1) (.pointer (some ⟨p, 0, none⟩))).put (some d2) (.pointer (some ⟨q, 0, none⟩))) w') :
    wpAnyB P md ops Q t 4 listed a w.drew := by
  have tail : ∀ p q w', Blk w' p zs ty → Blk w' q zs ty → p ≠ q → w.heap.size ≤ p → w.heap.size ≤ q → Ext w w' →
      wpAny P md ops Q 2 ((listed.setIfInBounds k true).setIfInBounds (k + 1) true) ((a.put (some d1) (.pointer (some ⟨p, 0, none⟩))).put (some d2) (.pointer (some ⟨q, 0, none⟩))) w' := by
    intro p q w' b1 b2 hpq hp hq he
    refine two_stores ty d1 d2 p q y1 y2 zs vs1 vs2 hk3 hk4 hr3 hr4 hr5 hg3 hg4 ho3 ho4 hn3 hn4 ?_ ?_ (hy1 p q) (hy2 p q) hpq b1 b2 hl1 hl2 hi1 hi2 h1 h2 he hp hq (fun w4 b3 b4 e4 => h p q w4 hpq hp hq b3 b4 e4)
    · simp [Act.eval, Act.put, hs1, Ne.symm hdd]
    · simp [Act.eval, Act.put, hs2]
  refine ⟨fun h0 => (by rw [hd] at h0; cases h0), fun _ w1 hw1 => ⟨by rw [hr]; simp, fun i hi => ?_⟩⟩
  rw [hr] at hi
  have he1 : Ext w w1 := (Ext.drew w).trans hw1
  simp only [List.mem_cons, List.not_mem_nil, or_false] at hi
  rcases hi with rfl | rfl
  · unfold wpOp
    simp only [hk1, Region.wanted, hg1, if_true]
    left
    unfold Oper.wp
    rw [run_alloc_zero ho1 hz]
    simp only [Oper.upon, hd1']
    refine ⟨Ext.alloc _ _, fun h0 => (by rw [hd1] at h0; cases h0), fun _ w2 hw2 => ⟨by rw [hr1]; simp, fun j hj => ?_⟩⟩
    rw [hr1] at hj
    obtain rfl : j = i + 1 := by simpa using hj
    have hb1 : Blk w2 w1.heap.size zs ty := ext_blk (Blk.made w1 zs ty) hw2
    unfold wpOp
    simp only [hk2, Region.wanted, hg2, if_true]
    left
    unfold Oper.wp
    rw [run_alloc_zero ho2 hz]
    simp only [Oper.upon, hd2']
    refine ⟨Ext.alloc _ _, fun _ w3 hw3 => ?_, fun h0 => (by rw [hd3] at h0; cases h0)⟩
    refine tail _ _ w3 (ext_blk (ext_blk hb1 (Ext.alloc w2 _)) hw3) (ext_blk (Blk.made w2 zs ty) hw3) (by have := hb1.lt; omega) he1.size (Nat.le_trans he1.size (Nat.le_of_lt hb1.lt)) (((he1.trans (Ext.alloc _ _)).trans hw2).trans ((Ext.alloc _ _).trans hw3))
  · unfold wpOp
    simp only [hk2, Region.wanted, hg2, if_true]
    left
    unfold Oper.wp
    rw [run_alloc_zero ho2 hz]
    simp only [Oper.upon, hd2']
    refine ⟨Ext.alloc _ _, fun h0 => (by rw [hd2] at h0; cases h0), fun _ w2 hw2 => ⟨by rw [hr2]; simp, fun j hj => ?_⟩⟩
    rw [hr2] at hj
    obtain rfl : j = k := by simpa using hj
    have hb1 : Blk w2 w1.heap.size zs ty := ext_blk (Blk.made w1 zs ty) hw2
    unfold wpOp
    simp only [hk1, Region.wanted, hg1, if_true]
    left
    unfold Oper.wp
    rw [run_alloc_zero ho1 hz]
    simp only [Oper.upon, hd1']
    rw [Array.setIfInBounds_comm _ _ (by omega : j + 1 ≠ j), Act.put_comm a _ _ (by simpa using fun e => hdd e)]
    refine ⟨Ext.alloc _ _, fun _ w3 hw3 => ?_, fun h0 => (by rw [hd3] at h0; cases h0)⟩
    refine tail _ _ w3 (ext_blk (Blk.made w2 zs ty) hw3) (ext_blk (ext_blk hb1 (Ext.alloc w2 _)) hw3) (by have := hb1.lt; omega) (Nat.le_trans he1.size (Nat.le_of_lt hb1.lt)) he1.size (((he1.trans (Ext.alloc _ _)).trans hw2).trans ((Ext.alloc _ _).trans hw3))

/-- A whole array is stored into what stands, and a value assigned: the region's end. -/
theorem end_set_assign {k : Nat} {o o2 : Oper} {listed : Array Bool} {a : Act} {w : World} (ty tb : TypeId) (x y z : Operand) (d : Nat) (u : Value) (c : Nat) (vs cs : List Value) (hk : ops[k]? = some o) (hk2 : ops[k + 1]? = some o2) (hr : Region.ready md ops listed = [k]) (hr2 : Region.ready md ops (listed.setIfInBounds k true) = [k + 1])
    (hr3 : Region.ready md ops ((listed.setIfInBounds k true).setIfInBounds (k + 1) true) = []) (hd : doneB t listed = true) (hg : o.guard = none) (hg2 : o2.guard = none) (hn : o.dst = none)
    (ho : o.op = .store ty x y) (hx : a.eval x = .pointer (some ⟨c, 0, none⟩)) (hy : a.eval y = .agg vs.toArray) (hb : Blk w c cs tb) (hl : vs.length = cs.length) (hi : (P.info? ty).map (·.size) = some vs.length) (h1 : ∀ v ∈ vs, v.oneCell' = true)
    (ho2 : o2.op = .assign z) (hd2 : o2.dst = some d) (hz : a.eval z = u) (h : ∀ w', Blk w' c vs tb → w.grownBy w' (some c) → Q .normal (a.put (some d) u) w') : wpAnyB P md ops Q t 2 listed a w.drew := by
  refine ⟨fun _ w' hw' => ⟨fun h0 => (by rw [hr] at h0; cases h0), fun i hi' => ?_⟩, fun h0 => (by rw [hd] at h0; cases h0)⟩
  rw [hr] at hi'
  obtain rfl : i = k := by simpa using hi'
  have he : Ext w w' := (Ext.drew w).trans hw'
  unfold wpOp
  simp only [hk, Region.wanted, hg, if_true]
  left
  refine wp_store_blk ty x y ho c vs hx hy tb cs (ext_blk hb he) hl hi h1 fun w2 hb2 hg2' => ?_
  rw [hn]
  refine ⟨fun h0 => (by rw [hr2] at h0; cases h0), fun j hj => ?_⟩
  rw [hr2] at hj
  obtain rfl : j = i + 1 := by simpa using hj
  unfold wpOp
  simp only [hk2, Region.wanted, hg2, if_true]
  left
  unfold Oper.wp execOp
  have hz' : (Act.put a none undef).eval z = u := hz
  simp only [ho2, hz', Sem.run_pure, Oper.upon, hd2]
  exact ⟨hr3, h w2 hb2 (grownBy_trans (grown_of_below he _) hg2')⟩
end

end Go.Proofs.Ytelenldabjmjbaa

/- The walks of package poly's limbs: carried. Each theorem names its own conditions. -/
namespace Go.Proofs.Ytelenldabjmjbaa
open Go.RowKit
set_option linter.unusedVariables false
set_option linter.unusedSimpArgs false

theorem Try.arr46 : (Try.prog.info? 46).map (·.size) = some 5 := by kernel_rfl
theorem lim_size {l : List Int} (h : l.length = 5) : (Try.prog.info? 46).map (·.size) = some (ints .u64 l).length := by rw [ints_length, h]; exact Try.arr46
theorem digit_q {w : World} {S i : Nat} {l : List Int} {t : TypeId} (h : Blk w S (ints .u64 l) t) (hi : i < l.length) : w.cell? ⟨S, i, none⟩ = some (.int .u64 (l.getD i 0)) := by
  rw [h.cell, ints_get hi]
theorem digit_b {w : World} {S i : Nat} {l : List Int} {t : TypeId} (h : Blk w S (ints .u8 l) t) (hi : i < l.length) : w.cell? ⟨S, i, none⟩ = some (.int .u8 (l.getD i 0)) := by
  rw [h.cell, ints_get hi]
theorem mask26 (a : Int) (h0 : 0 ≤ a) (h1 : a ≤ 18446744073709551615) : bits .and .u64 a 67108863 = a % 67108864 := by
  obtain ⟨n, rfl⟩ : ∃ n : Nat, a = (n : Int) := ⟨a.toNat, by omega⟩
  have h := bits_and_u64_nat n 67108863 (by omega) (by omega)
  have e : n &&& 67108863 = n % 67108864 := Nat.and_two_pow_sub_one_eq_mod n 26
  rw [e] at h
  exact h

set_option maxRecDepth 100000 in
set_option maxHeartbeats 4000000 in
theorem pcarried_any (a b c d e : Int) (ha : 0 ≤ a ∧ a ≤ 378302368699121664) (hb : 0 ≤ b ∧ b ≤ 378302368699121664) (hc : 0 ≤ c ∧ c ≤ 378302368699121664) (hd : 0 ≤ d ∧ d ≤ 378302368699121664) (he : 0 ≤ e ∧ e ≤ 90071992547409920) (w : World) :
    Calls Try.prog 28 #[.agg (ints .u64 [a, b, c, d, e]).toArray] w fun x w' => x = .returned (.agg (ints .u64 (carL [a, b, c, d, e])).toArray) ∧ Below w.heap.size w w' := by
  obtain ⟨b1, hb1⟩ : ∃ x, x = b + a / 67108864 := ⟨_, rfl⟩
  obtain ⟨c1, hc1⟩ : ∃ x, x = c + b1 / 67108864 := ⟨_, rfl⟩
  obtain ⟨d1, hd1⟩ : ∃ x, x = d + c1 / 67108864 := ⟨_, rfl⟩
  obtain ⟨e1, he1⟩ : ∃ x, x = e + d1 / 67108864 := ⟨_, rfl⟩
  obtain ⟨l, hl⟩ : ∃ x, x = a % 67108864 + 5 * (e1 / 67108864) := ⟨_, rfl⟩
  have HO : Hid (carL [a, b, c, d, e] = [l % 67108864, b1 % 67108864 + l / 67108864, c1 % 67108864, d1 % 67108864, e1 % 67108864]) := Lib.hid (by subst hl he1 hd1 hc1 hb1; rfl)
  have b2 : 0 ≤ b1 ∧ b1 ≤ 378302374400000000 := by omega
  have c2 : 0 ≤ c1 ∧ c1 ≤ 378302374400000000 := by omega
  have d2 : 0 ≤ d1 ∧ d1 ≤ 378302374400000000 := by omega
  have e2 : 0 ≤ e1 ∧ e1 ≤ 90071998300000000 := by omega
  have l2 : 0 ≤ l ∧ l ≤ 6777996000 := by omega
  rw [HO.out]
  have W1 : Hid (b + a / 67108864 = b1) := Lib.hid hb1.symm
  have W2 : Hid (c + b1 / 67108864 = c1) := Lib.hid hc1.symm
  have W3 : Hid (d + c1 / 67108864 = d1) := Lib.hid hd1.symm
  have W4 : Hid (e + d1 / 67108864 = e1) := Lib.hid he1.symm
  have W5 : Hid (a % 67108864 + 5 * (e1 / 67108864) = l) := Lib.hid hl.symm
  have HB := Lib.hid (boxes2 w (ints .u64 [a, b, c, d, e]) (ints .u64 [0, 0, 0, 0, 0]) 46 46)
  clear hb1 hc1 hd1 he1 hl HO
  go_enter Try.func28, Try.ntmps28
  go_upto_region 1 with (fail)
  obtain ⟨H1, H2, HE⟩ := HB.out
  change Code.wp _ _ _ _ ((w.alloc (.cells (ints .u64 [a, b, c, d, e]).toArray 46)).alloc (.cells (ints .u64 [0, 0, 0, 0, 0]).toArray 46))
  generalize (w.alloc (.cells (ints .u64 [a, b, c, d, e]).toArray 46)).alloc (.cells (ints .u64 [0, 0, 0, 0, 0]).toArray 46) = wa at *
  obtain ⟨A, hA⟩ : ∃ A, A = w.heap.size := ⟨_, rfl⟩
  have HAW : Hid (w.heap.size ≤ A) := Lib.hid (by omega)
  rw [← hA] at H1 H2 ⊢
  have H1 := Lib.hid H1
  have H2 := Lib.hid H2
  have HE : Hid (Ext w wa) := Lib.hid HE
  clear hA HB
  have q0 := H1.out.cell 0
  have q1 := H1.out.cell 1
  have f1 := H1.out.free 1
  simp only [ints, List.map_cons, List.map_nil, List.getElem?_cons_zero, List.getElem?_cons_succ] at q0 q1
  go_upto_region 2 with (fail)
  rw [W1.out]
  have H1 : Hid (Blk (wa.setCell ⟨A, 1, none⟩ (.int .u64 b1)) A (ints .u64 [a, b1, c, d, e]) 46) := Lib.hid (H1.out.seti 1 _)
  have H2 := Lib.hid (H2.out.far (a := ⟨A, 1, none⟩) (by simp) (.int .u64 b1))
  have HE : Hid (Ext w (wa.setCell ⟨A, 1, none⟩ (.int .u64 b1))) := Lib.hid (Below.setCell HE.out (by have := HAW.out; simp; omega) _)
  generalize wa.setCell ⟨A, 1, none⟩ (.int .u64 b1) = wa1 at *
  clear q0 q1 f1
  have q0 := H1.out.cell 1
  have q1 := H1.out.cell 2
  have f1 := H1.out.free 2
  simp only [ints, List.map_cons, List.map_nil, List.getElem?_cons_zero, List.getElem?_cons_succ] at q0 q1
  go_upto_region 3 with (fail)
  rw [W2.out]
  have H1 : Hid (Blk (wa1.setCell ⟨A, 2, none⟩ (.int .u64 c1)) A (ints .u64 [a, b1, c1, d, e]) 46) := Lib.hid (H1.out.seti 2 _)
  have H2 := Lib.hid (H2.out.far (a := ⟨A, 2, none⟩) (by simp) (.int .u64 c1))
  have HE : Hid (Ext w (wa1.setCell ⟨A, 2, none⟩ (.int .u64 c1))) := Lib.hid (Below.setCell HE.out (by have := HAW.out; simp; omega) _)
  generalize wa1.setCell ⟨A, 2, none⟩ (.int .u64 c1) = wa2 at *
  clear q0 q1 f1
  have q0 := H1.out.cell 2
  have q1 := H1.out.cell 3
  have f1 := H1.out.free 3
  simp only [ints, List.map_cons, List.map_nil, List.getElem?_cons_zero, List.getElem?_cons_succ] at q0 q1
  go_upto_region 4 with (fail)
  rw [W3.out]
  have H1 : Hid (Blk (wa2.setCell ⟨A, 3, none⟩ (.int .u64 d1)) A (ints .u64 [a, b1, c1, d1, e]) 46) := Lib.hid (H1.out.seti 3 _)
  have H2 := Lib.hid (H2.out.far (a := ⟨A, 3, none⟩) (by simp) (.int .u64 d1))
  have HE : Hid (Ext w (wa2.setCell ⟨A, 3, none⟩ (.int .u64 d1))) := Lib.hid (Below.setCell HE.out (by have := HAW.out; simp; omega) _)
  generalize wa2.setCell ⟨A, 3, none⟩ (.int .u64 d1) = wa3 at *
  clear q0 q1 f1
  have q0 := H1.out.cell 3
  have q1 := H1.out.cell 4
  have f1 := H1.out.free 4
  simp only [ints, List.map_cons, List.map_nil, List.getElem?_cons_zero, List.getElem?_cons_succ] at q0 q1
  go_upto_region 5 with (fail)
  rw [W4.out]
  have H1 : Hid (Blk (wa3.setCell ⟨A, 4, none⟩ (.int .u64 e1)) A (ints .u64 [a, b1, c1, d1, e1]) 46) := Lib.hid (H1.out.seti 4 _)
  have H2 := Lib.hid (H2.out.far (a := ⟨A, 4, none⟩) (by simp) (.int .u64 e1))
  have HE : Hid (Ext w (wa3.setCell ⟨A, 4, none⟩ (.int .u64 e1))) := Lib.hid (Below.setCell HE.out (by have := HAW.out; simp; omega) _)
  generalize wa3.setCell ⟨A, 4, none⟩ (.int .u64 e1) = wa4 at *
  clear q0 q1 f1
  have q0 := H1.out.cell 0
  have q1 := H1.out.cell 1
  have q2 := H1.out.cell 2
  have q3 := H1.out.cell 3
  have q4 := H1.out.cell 4
  have m0 := mask26 a (by omega) (by omega)
  have m1 := mask26 b1 (by omega) (by omega)
  have m2 := mask26 c1 (by omega) (by omega)
  have m3 := mask26 d1 (by omega) (by omega)
  have m4 := mask26 e1 (by omega) (by omega)
  have m5 := mask26 l (by omega) (by omega)
  simp only [ints, List.map_cons, List.map_nil, List.getElem?_cons_zero, List.getElem?_cons_succ] at q0 q1 q2 q3 q4
  go_upto_region 6 with (fail)
  rw [W5.out]
  go_wp2_with (refine wpList_store_blk rfl _ _ _ rfl (A + 1) (ints .u64 [l % 67108864, b1 % 67108864 + l / 67108864, c1 % 67108864, d1 % 67108864, e1 % 67108864]) rfl rfl _ _ H2.out rfl (lim_size rfl) (ints_one _ _) ?_; intro w5 hb5 hg5)
  refine bodyPost_ret (result_blk rfl _ (A + 1) _ _ _ _ rfl hb5 Try.underlying46 (lim_size rfl)) rfl ?_
  exact ⟨rfl, ext_grown HE.out hg5 (by have := HAW.out; omega)⟩


end Go.Proofs.Ytelenldabjmjbaa

/- The walks of package poly's plus, settled, reduced. Each theorem names its own conditions. -/
namespace Go.Proofs.Ytelenldabjmjbaa
open Go.RowKit
set_option linter.unusedVariables false
set_option linter.unusedSimpArgs false

theorem addL_len {x y : List Int} (hx : x.length = 5) : (addL x y).length = 5 := by unfold addL; rw [sA_length, hx]
theorem setL_len {x : List Int} (hx : x.length = 5) : (setL x).length = 5 := by unfold setL; rw [zRun_length, hx]

set_option maxRecDepth 100000 in
set_option maxHeartbeats 8000000 in
theorem pplus_any (x y : List Int) (w : World) (hx : Lim 1152921504606846976 x) (hy : Lim 1152921504606846976 y) :
    Calls Try.prog 21 #[.agg (ints .u64 x).toArray, .agg (ints .u64 y).toArray] w fun e w' => e = .returned (.agg (ints .u64 (addL x y)).toArray) ∧ Below w.heap.size w w' := by
  have HX := Lib.hid hx
  have HY := Lib.hid hy
  have HB := Lib.hid (boxes3 w (ints .u64 x) (ints .u64 y) (ints .u64 (List.replicate 5 0)) 46 46 46)
  clear hx hy
  go_enter Try.func21, Try.ntmps21
  go_upto_region 1 with (fail)
  obtain ⟨H1, H2, H3, HE⟩ := HB.out
  change Code.wp _ _ _ _ (((w.alloc (.cells (ints .u64 x).toArray 46)).alloc (.cells (ints .u64 y).toArray 46)).alloc (.cells (ints .u64 (List.replicate 5 0)).toArray 46))
  generalize ((w.alloc (.cells (ints .u64 x).toArray 46)).alloc (.cells (ints .u64 y).toArray 46)).alloc (.cells (ints .u64 (List.replicate 5 0)).toArray 46) = wa at *
  obtain ⟨A, hA⟩ : ∃ A, A = w.heap.size := ⟨_, rfl⟩
  have HAW : Hid (w.heap.size ≤ A) := Lib.hid (by omega)
  rw [← hA] at H1 H2 H3 ⊢
  have H1 : Hid (Blk wa A (ints .u64 (sA x y 0)) 46) := Lib.hid H1
  have H2 := Lib.hid H2
  have H3 := Lib.hid H3
  have HE : Hid (Ext w wa) := Lib.hid HE
  clear hA HB
  go_wp2_with fail
  go_loopw [6] (fun iv wr => ∃ (k : Nat), k ≤ 5 ∧ iv = .int .i64 (k : Int) ∧ Blk wr A (ints .u64 (sA x y k)) 46 ∧ Blk wr (A + 1) (ints .u64 y) 46 ∧ Blk wr (A + 1 + 1) (ints .u64 (List.replicate 5 0)) 46 ∧ Ext w wr) (fun iv _ => 5 - (intOf iv).toNat)
  case atStart => exact ⟨0, by omega, rfl, H1.out, H2.out, H3.out, HE.out⟩
  case round =>
    clear H1 H2 H3 HE
    obtain ⟨k, hk, rfl, hb1, hb2, hb3, hbel⟩ := hrel
    have k0 : (0 : Int) ≤ (k : Int) := Int.natCast_nonneg _
    have H1 := Lib.hid hb1
    have H2 := Lib.hid hb2
    have H3 := Lib.hid hb3
    have HE := Lib.hid hbel
    by_cases hlk : k < 5
    · have k1 : (k : Int) < 5 := by omega
      have q1 := digit_q hb1 (i := k) (by rw [sA_length, HX.out.len]; exact hlk)
      have q2 := digit_q hb2 (i := k) (by rw [HY.out.len]; exact hlk)
      have f1 := hb1.free k
      have hxa := HX.out.getD (by omega) k
      have hya := HY.out.getD (by omega) k
      rw [sA_getD x y k (by rw [HX.out.len]; exact hk) k, if_neg (Nat.lt_irrefl _)] at q1
      have HS : Hid (sA x y (k + 1) = (sA x y k).set k (x.getD k 0 + y.getD k 0)) := Lib.hid (by rw [sA, sA_getD x y k (by rw [HX.out.len]; exact hk) k, if_neg (Nat.lt_irrefl _)])
      clear hb1 hb2 hb3 hbel
      generalize x.getD k 0 = p at *
      generalize y.getD k 0 = q at *
      obtain ⟨p0, p1⟩ := hxa
      obtain ⟨r0, r1⟩ := hya
      go_wp2_with fail
      go_region
      go_wp2_with fail
      go_roundw
      case rel => exact ⟨k + 1, by omega, by go_num, by rw [HS.out]; exact (H1.out.seti k _).drewN 1, (H2.out.far (by simp) _).drewN 1, (H3.out.far (by simp; omega) _).drewN 1, Ext.trans (Below.setCell HE.out (by have := HAW.out; simp; omega) _) (Ext.drew _)⟩
      case measure => simp [intOf]; omega
    · have hk5 : k = 5 := by omega
      subst hk5
      clear hb1 hb2 hb3 hbel
      have HL : Hid ((sA x y 5).length = 5) := Lib.hid (by rw [sA_length, HX.out.len])
      have HR : Hid (addL x y = sA x y 5) := Lib.hid rfl
      generalize sA x y 5 = s at *
      have HI : Hid ((Try.prog.info? 46).map (·.size) = some (ints .u64 s).length) := Lib.hid (lim_size HL.out)
      have HLz : Hid ((ints .u64 s).length = (ints .u64 (List.replicate 5 0)).length) := Lib.hid (by rw [ints_length, HL.out]; rfl)
      go_wp2_with (first | (refine wpList_load_blk rfl _ _ rfl A rfl _ _ _ _ H1.out Try.underlying46 HI.out ?_) | (refine wpList_store_blk rfl _ _ _ rfl (A + 1 + 1) (ints .u64 s) rfl rfl _ _ H3.out HLz.out HI.out (ints_one _ _) ?_; intro w5 hb5 hg5))
      refine bodyPost_ret (result_blk rfl _ (A + 1 + 1) _ _ _ _ rfl hb5 Try.underlying46 HI.out) rfl ?_
      exact ⟨by rw [HR.out], ext_grown HE.out hg5 (by have := HAW.out; omega)⟩

set_option maxRecDepth 100000 in
set_option maxHeartbeats 8000000 in
theorem psettled_any (x : List Int) (w : World) (hx : Lim 1152921504606846976 x) :
    Calls Try.prog 20 #[.agg (ints .u64 x).toArray] w fun e w' => e = .returned (.agg (ints .u64 (setL x)).toArray) ∧ Below w.heap.size w w' := by
  have HX := Lib.hid hx
  have HB := Lib.hid (boxes2 w (ints .u64 x) (ints .u64 (List.replicate 5 0)) 46 46)
  clear hx
  go_enter Try.func20, Try.ntmps20
  go_upto_region 1 with (fail)
  obtain ⟨H1, H2, HE⟩ := HB.out
  change Code.wp _ _ _ _ ((w.alloc (.cells (ints .u64 x).toArray 46)).alloc (.cells (ints .u64 (List.replicate 5 0)).toArray 46))
  generalize (w.alloc (.cells (ints .u64 x).toArray 46)).alloc (.cells (ints .u64 (List.replicate 5 0)).toArray 46) = wa at *
  obtain ⟨A, hA⟩ : ∃ A, A = w.heap.size := ⟨_, rfl⟩
  have HAW : Hid (w.heap.size ≤ A) := Lib.hid (by omega)
  rw [← hA] at H1 H2 ⊢
  have H1 : Hid (Blk wa A (ints .u64 (zRun x 0).1) 46) := Lib.hid H1
  have H2 := Lib.hid H2
  have HE : Hid (Ext w wa) := Lib.hid HE
  clear hA HB
  go_wp2_with fail
  go_loopw [3, 5] (fun cv iv wr => ∃ (k : Nat), k ≤ 5 ∧ cv = .int .u64 (zRun x k).2 ∧ iv = .int .i64 (k : Int) ∧ Blk wr A (ints .u64 (zRun x k).1) 46 ∧ Blk wr (A + 1) (ints .u64 (List.replicate 5 0)) 46 ∧ Ext w wr) (fun _ iv _ => 5 - (intOf iv).toNat)
  case atStart => exact ⟨0, by omega, rfl, rfl, H1.out, H2.out, HE.out⟩
  case round =>
    clear H1 H2 HE
    obtain ⟨k, hk, rfl, rfl, hb1, hb2, hbel⟩ := hrel
    have k0 : (0 : Int) ≤ (k : Int) := Int.natCast_nonneg _
    have H1 := Lib.hid hb1
    have H2 := Lib.hid hb2
    have HE := Lib.hid hbel
    by_cases hlk : k < 5
    · have k1 : (k : Int) < 5 := by omega
      have q1 := digit_q hb1 (i := k) (by rw [zRun_length, HX.out.len]; exact hlk)
      have f1 := hb1.free k
      have hxa := HX.out.getD (by omega) k
      have hca := zRun_carry (M := 1152921504606846976) (by omega) x (HX.out.getD (by omega)) k
      rw [zRun_far x k k (Nat.le_refl _)] at q1
      have HS : Hid (zRun x (k + 1) = ((zRun x k).1.set k (((zRun x k).2 + x.getD k 0) % 67108864), ((zRun x k).2 + x.getD k 0) / 67108864)) := Lib.hid (by rw [zRun, zRun_far x k k (Nat.le_refl _)])
      clear hb1 hb2 hbel
      generalize x.getD k 0 = p at *
      generalize (zRun x k).2 = q at *
      obtain ⟨p0, p1⟩ := hxa
      obtain ⟨r0, r1⟩ := hca
      have m1 := mask26 (q + p) (by omega) (by omega)
      go_wp2_with fail
      go_roundw
      case rel => exact ⟨k + 1, by omega, by rw [HS.out], by go_num, by rw [HS.out]; exact H1.out.seti k _, H2.out.far (by simp) _, Below.setCell HE.out (by have := HAW.out; simp; omega) _⟩
      case measure => simp [intOf]; omega
    · have hk5 : k = 5 := by omega
      subst hk5
      clear hb1 hb2 hbel
      have HL : Hid ((zRun x 5).1.length = 5) := Lib.hid (by rw [zRun_length, HX.out.len])
      have HR : Hid (setL x = (zRun x 5).1) := Lib.hid rfl
      generalize (zRun x 5).1 = s at *
      have HI : Hid ((Try.prog.info? 46).map (·.size) = some (ints .u64 s).length) := Lib.hid (lim_size HL.out)
      have HLz : Hid ((ints .u64 s).length = (ints .u64 (List.replicate 5 0)).length) := Lib.hid (by rw [ints_length, HL.out]; rfl)
      go_wp2_with (first | (refine wpList_load_blk rfl _ _ rfl A rfl _ _ _ _ H1.out Try.underlying46 HI.out ?_) | (refine wpList_store_blk rfl _ _ _ rfl (A + 1) (ints .u64 s) rfl rfl _ _ H2.out HLz.out HI.out (ints_one _ _) ?_; intro w5 hb5 hg5))
      refine bodyPost_ret (result_blk rfl _ (A + 1) _ _ _ _ rfl hb5 Try.underlying46 HI.out) rfl ?_
      exact ⟨by rw [HR.out], ext_grown HE.out hg5 (by have := HAW.out; omega)⟩

end Go.Proofs.Ytelenldabjmjbaa

/- Equality of arrays of bytes in a plain region's walk. Nothing here speaks of a program. Each theorem names its own conditions. -/
namespace Go.Proofs.Ytelenldabjmjbaa
open Go.RowKit
set_option linter.unusedVariables false

section
variable {P : Program} {ops : Array Oper} {Q : Exit → Act → World → Prop}

/-- Two arrays of bytes, held against each other, in a region that keeps the text's order. -/
theorem wpList_eql {rest : List Oper} {o : Oper} {a : Act} {w : World} (hw : Region.wanted o (yielded ops a.tmps) = true) (b : BinOp) (ty rt e : TypeId) (x y : Operand) (n : Nat) (i : TypeInfo) (xs ys : List UInt8) (r : Bool) (ho : o.op = .binOp b ty x y rt)
    (hb : b = .eql ∧ decide (xs = ys) = r ∨ b = .neq ∧ decide (xs = ys) = !r)
    (hu : P.underlying ty = some (.array n e)) (he : P.underlying e = some (.int .u8)) (hi : P.info? e = some i) (hc : P.cellsOf e = 1) (hg : P.eqGuardType P.depth ty = false)
    (hx : a.eval x = .agg (xs.map bval).toArray) (hy : a.eval y = .agg (ys.map bval).toArray) (lx : xs.length = n) (ly : ys.length = n)
    (next : wpList P ops Q rest (a.put o.dst (.bool r)) w) : wpList P ops Q (o :: rest) a w := by
  refine wpList_step fun K hK => ?_
  rw [if_pos hw]
  have h1 := run_equal_bytes hu he hi hc xs ys lx ly w
  unfold Oper.wp execOp
  rcases hb with ⟨rfl, hb⟩ | ⟨rfl, hb⟩
  · rw [hb] at h1
    simp only [ho, hx, hy]
    simp [eqGuard, hg, binOp, h1]
    exact hK _ _ next
  · rw [hb] at h1
    simp only [ho, hx, hy]
    simp [eqGuard, hg, binOp, h1]
    exact hK _ _ next
end

end Go.Proofs.Ytelenldabjmjbaa

/- A whole array is loaded in a region that keeps the text's order, by an operation that another may skip. Nothing here speaks of a program. -/
namespace Go.Proofs.Ytelenldabjmjbaa
open Go.RowKit
set_option linter.unusedVariables false

section
variable {P : Program} {ops : Array Oper} {Q : Exit → Act → World → Prop}

theorem wpList_load_w {rest : List Oper} {o : Oper} {a : Act} {w : World} (hw : Region.wanted o (yielded ops a.tmps) = true) (ty : TypeId) (x : Operand) (ho : o.op = .load ty x)
    (c : Nat) (hx : a.eval x = .pointer (some ⟨c, 0, none⟩)) (t : TypeId) (cs : List Value) (n : Nat) (e : TypeId) (hb : Blk w c cs t)
    (hu : P.underlying ty = some (.array n e)) (hi : (P.info? ty).map (·.size) = some cs.length)
    (next : wpList P ops Q rest (a.put o.dst (.agg cs.toArray)) w) : wpList P ops Q (o :: rest) a w := by
  refine wpList_step fun K hK => ?_
  rw [if_pos hw]
  exact wp_load_mid ty x ho c 0 hx cs _ hb.range hu rfl hi (hK _ _ next)
end

end Go.Proofs.Ytelenldabjmjbaa

/- Further lemmas on rows of the call's own: one that was just built; append in a plain region by an operation that another may skip. Nothing here speaks of a program. Each theorem names its own conditions. -/
namespace Go.Proofs.Ytelenldabjmjbaa
open Go.RowKit
set_option linter.unusedVariables false

section
variable {P : Program} {w w' : World} {v : Value} {vs : List Value}

/-- A slice that was just built is the call's own. -/
theorem own_made (w : World) (c : Array Value) (base : Nat) (e : TypeId) (n : Nat) (l : List Value) (hc : c.toList = l) (hl : l.length = n) (hm : n ≤ maxLen) (hb : base ≤ w.heap.size) : (w.alloc (.cells c e)).ownsRow base e 1 (.slice (some ⟨w.heap.size, 0, none⟩) n n) n l := by
  subst hl; subst hc
  refine ⟨by simp, Or.inr ⟨w.heap.size, c.toList.length, c, rfl, hb, heap_alloc_new w _, Nat.le_refl _, hm, by simp, by rw [Nat.mul_one]; exact List.take_of_length_le (Nat.le_refl _)⟩⟩
theorem ext_own {a b d : World} {base : Nat} {e : TypeId} {n : Nat} {x : Value} {xs : List Value} (h : Ext a b) (ho : b.ownsRow base e 1 x n xs) (hb : a.heap.size ≤ base) (hg : b.grownBy d x.ownBlock) : Ext a d :=
  Below.grown h hg h.size (fun r hr => by
    obtain ⟨_, h1 | ⟨g, cap, cur, rfl, h2, _⟩⟩ := ho
    · obtain ⟨rfl, _⟩ := h1
      cases hr
    · cases hr
      exact Nat.le_trans hb h2)

/-- append of whatever reads as a list, where another operation may skip it. -/
theorem wpList_append_w {ops : Array Oper} {rest : List Oper} {o : Oper} {a : Act} {Q : Exit → Act → World → Prop} (hw : Region.wanted o (yielded ops a.tmps) = true) (s y : Operand) (t : TypeId)
    (ho : o.op = .call { callee := .builtin .append, args := #[s, y], argTypes := #[t, t] })
    (base : Nat) (e : TypeId) (i : TypeInfo) (z : Value) (bytes : Nat) (ht : P.underlying t = some (.slice e)) (hi : P.info? e = some i) (hz : i.zero = some z)
    (hsize : i.size = 1) (hby : i.bytes = bytes) (hzs : z.cells.size = 1)
    (x : Value) (n : Nat) (xs : List Value) (hs : a.eval s = x) (hown : w.ownsRow base e 1 x n xs)
    (hx : a.eval y = v) (hv : Row1 w v vs) (h1 : ∀ u ∈ vs, u.oneCell' = true)
    (h63 : n + vs.length ≤ maxLen) (hbytes : (n + vs.length) * bytes ≤ 140737488355328) (hbase : base ≤ w.heap.size)
    (h : ∀ x' w', w'.ownsRow base e 1 x' (n + vs.length) (xs ++ vs) → w.grownBy w' x.ownBlock → wpList P ops Q rest (a.put o.dst x') w') : wpList P ops Q (o :: rest) a w := by
  refine wpList_step fun K hK => ?_
  rw [if_pos hw]
  exact wp_append_row s y t ho base e i z bytes ht hi hz hsize hby hzs x n xs hs hown hx hv h1 h63 hbytes hbase fun x' w' h2 h3 => hK _ _ (h x' w' h2 h3)
end

end Go.Proofs.Ytelenldabjmjbaa

/- s[n:] of whatever reads as a list, whatever its address. Nothing here speaks of a program. Each theorem names its own conditions. -/
namespace Go.Proofs.Ytelenldabjmjbaa
open Go.RowKit
set_option linter.unusedVariables false

section
variable {P : Program} {w : World}
theorem row_cut {t e : TypeId} (ht : P.underlying t = some (.slice e)) (hs : ∀ w, (sizeOf e).run P w = .ok 1 w) {v : Value} {vs : List Value} (h : Row1 w v vs) (n : Nat) (hn : n ≤ vs.length) :
    ∃ v', Row1 w v' (vs.drop n) ∧ ∀ w', (Instr.sliceAt t v (some (.int .i64 (n : Int))) none none).run P w' = .ok v' w' := by
  obtain ⟨a, cap, rfl, h1, h2, h3, h4⟩ := h
  have e2 : P.elem t = e := by unfold Program.elem; rw [ht]
  have ht2 : P.underlying t = some (.slice (P.elem t)) := by rw [e2]; exact ht
  have hr : ∀ w', (Instr.sliceAt t (.slice a vs.length cap) (some (.int .i64 (n : Int))) none none).run P w' = .ok (sliced a n vs.length cap 1) w' := fun w' => by
    rw [run_sliceAt_slice w' t _ _ _ _ ht2, run_slice_l (ht := ht2) (kl := .i64) (l := (n : Int)) (h0 := by omega) (h1 := by omega), e2, hs]
    simp
  refine ⟨_, ?_, hr⟩
  have hl : (vs.drop n).length = vs.length - n := by simp
  unfold sliced
  by_cases hc : cap = n
  · rw [if_pos hc]
    have hv : vs.drop n = [] := List.drop_eq_nil_of_le (by omega)
    rw [hv]
    refine ⟨a, cap - n, by rw [show vs.length - n = 0 from by omega]; rfl, Nat.zero_le _, by omega, fun e => by have := h3 e; omega, fun h => absurd rfl h⟩
  · rw [if_neg hc]
    refine ⟨a.map (·.add (n * 1)), cap - n, by rw [hl], by rw [hl]; omega, by omega, fun e => ?_, fun hne => ?_⟩
    · cases a with
      | none => have := h3 rfl; omega
      | some a => cases e
    · have hne2 : vs ≠ [] := by rintro rfl; simp at hne
      obtain ⟨b, off, rfl, g1, g2⟩ := h4 hne2
      refine ⟨b, off + n, by rw [Option.map_some, WideShapes.add_plain, Nat.mul_one], g1, fun i hi => ?_⟩
      rw [hl] at hi
      rw [Nat.add_assoc, g2 (n + i) (by omega), List.getElem?_drop]
/-- A part of what reads as a list, by the address that slicing makes of it. -/
theorem row_sliced {a : Option Addr} {cap : Nat} {vs : List Value} (h : Row1 w (.slice a vs.length cap) vs) (i k : Nat) (hik : i ≤ k) (hk : k ≤ vs.length) : Row1 w (sliced a i k cap 1) ((vs.drop i).take (k - i)) := by
  obtain ⟨a0, cap0, e0, h1, h2, h3, h4⟩ := h
  cases e0
  have hl : ((vs.drop i).take (k - i)).length = k - i := by simp; omega
  unfold sliced
  by_cases hc : cap = i
  · rw [if_pos hc]
    have hv : (vs.drop i).take (k - i) = [] := List.eq_nil_of_length_eq_zero (by omega)
    rw [hv]
    refine ⟨a, cap - i, by rw [show k - i = 0 from by omega]; rfl, Nat.zero_le _, by omega, fun e => by have := h3 e; omega, fun h => absurd rfl h⟩
  · rw [if_neg hc]
    refine ⟨a.map (·.add (i * 1)), cap - i, by rw [hl], by rw [hl]; omega, by omega, fun e => ?_, fun hne => ?_⟩
    · cases a with
      | none => have := h3 rfl; omega
      | some a => cases e
    · have hne2 : vs ≠ [] := by rintro rfl; simp at hne
      obtain ⟨b, off, rfl, g1, g2⟩ := h4 hne2
      refine ⟨b, off + i, by rw [Option.map_some, WideShapes.add_plain, Nat.mul_one], g1, fun j hj => ?_⟩
      rw [hl] at hj
      rw [Nat.add_assoc, g2 (i + j) (by omega), List.getElem?_take, if_pos hj, List.getElem?_drop]
/-- s[:k]. -/
theorem row_upto {t e : TypeId} (ht : P.underlying t = some (.slice e)) (hs : ∀ w, (sizeOf e).run P w = .ok 1 w) {v : Value} {vs : List Value} (h : Row1 w v vs) (k : Nat) (hk : k ≤ vs.length) :
    ∃ v', Row1 w v' (vs.take k) ∧ ∀ w', (Instr.sliceAt t v none (some (.int .i64 (k : Int))) none).run P w' = .ok v' w' := by
  obtain ⟨a, cap, rfl, h1, _⟩ := id h
  have e2 : P.elem t = e := by unfold Program.elem; rw [ht]
  have ht2 : P.underlying t = some (.slice (P.elem t)) := by rw [e2]; exact ht
  refine ⟨sliced a 0 k cap 1, by simpa using row_sliced h 0 k (Nat.zero_le _) hk, fun w' => ?_⟩
  rw [run_sliceAt_slice w' t _ _ _ _ ht2, run_slice_h (ht := ht2) (kh := .i64) (h := (k : Int)) (h0 := by omega) (h2 := by omega), e2, hs]
  simp
/-- s[i:k]. -/
theorem row_mid {t e : TypeId} (ht : P.underlying t = some (.slice e)) (hs : ∀ w, (sizeOf e).run P w = .ok 1 w) {v : Value} {vs : List Value} (h : Row1 w v vs) (i k : Nat) (hik : i ≤ k) (hk : k ≤ vs.length) :
    ∃ v', Row1 w v' ((vs.drop i).take (k - i)) ∧ ∀ w', (Instr.sliceAt t v (some (.int .i64 (i : Int))) (some (.int .i64 (k : Int))) none).run P w' = .ok v' w' := by
  obtain ⟨a, cap, rfl, h1, _⟩ := id h
  have e2 : P.elem t = e := by unfold Program.elem; rw [ht]
  have ht2 : P.underlying t = some (.slice (P.elem t)) := by rw [e2]; exact ht
  refine ⟨sliced a i k cap 1, row_sliced h i k hik hk, fun w' => ?_⟩
  rw [run_sliceAt_slice w' t _ _ _ _ ht2, run_slice_lh (ht := ht2) (kl := .i64) (kh := .i64) (l := (i : Int)) (h := (k : Int)) (h0 := by omega) (h1 := by omega) (h2 := by omega), e2, hs]
  simp
/-- Rows of rows. -/
theorem rowB1 {v x : Value} {l : List UInt8} (h : Row1 w v [x]) (hx : Row1 w x (l.map bval)) : RowB w v [l] :=
  ⟨_, h, rfl, fun i y k hy hk => by
    match i with
    | 0 => simp at hy hk; subst hy; subst hk; exact hx
    | i + 1 => simp at hy⟩
theorem rowB2 {v x y : Value} {l m : List UInt8} (h : Row1 w v [x, y]) (hx : Row1 w x (l.map bval)) (hy : Row1 w y (m.map bval)) : RowB w v [l, m] :=
  ⟨_, h, rfl, fun i u k hu hk => by
    match i with
    | 0 => simp at hu hk; subst hu; subst hk; exact hx
    | 1 => simp at hu hk; subst hu; subst hk; exact hy
    | i + 2 => simp at hu⟩
theorem rowB3 {v x y z : Value} {l m n : List UInt8} (h : Row1 w v [x, y, z]) (hx : Row1 w x (l.map bval)) (hy : Row1 w y (m.map bval)) (hz : Row1 w z (n.map bval)) : RowB w v [l, m, n] :=
  ⟨_, h, rfl, fun i u k hu hk => by
    match i with
    | 0 => simp at hu hk; subst hu; subst hk; exact hx
    | 1 => simp at hu hk; subst hu; subst hk; exact hy
    | 2 => simp at hu hk; subst hu; subst hk; exact hz
    | i + 3 => simp at hu⟩
theorem rowB4 {v x y z u : Value} {l m n o : List UInt8} (h : Row1 w v [x, y, z, u]) (hx : Row1 w x (l.map bval)) (hy : Row1 w y (m.map bval)) (hz : Row1 w z (n.map bval)) (hu : Row1 w u (o.map bval)) : RowB w v [l, m, n, o] :=
  ⟨_, h, rfl, fun i q k hq hk => by
    match i with
    | 0 => simp at hq hk; subst hq; subst hk; exact hx
    | 1 => simp at hq hk; subst hq; subst hk; exact hy
    | 2 => simp at hq hk; subst hq; subst hk; exact hz
    | 3 => simp at hq hk; subst hq; subst hk; exact hu
    | i + 4 => simp at hq⟩
/-- A new block of cells that bears a mark, as a row. -/
theorem Row1.made_mark (w : World) (c : Array Value) (e : TypeId) (fr : Nat × Nat) (n m : Nat) (l : List Value) (hn : w.heap.size = n) (hc : c.toList = l) (hl : l.length = m) (hm : m ≤ maxLen) : Row1 (w.alloc (.cells c e fr)) (.slice (some ⟨n, 0, none⟩) m m) l := by
  subst hn; subst hl; subst hc
  refine ⟨_, _, rfl, Nat.le_refl _, hm, (fun e => by cases e), fun _ => ⟨w.heap.size, 0, rfl, by simp, fun i hi => ?_⟩⟩
  rw [Nat.zero_add, World.cell?_alloc_mark]
  simp
/-- A whole array, as a row. -/
theorem blk_row {c n : Nat} {cs : List Value} {t : TypeId} (h : Blk w c cs t) (hn : cs.length = n) (hm : n ≤ maxLen) : Row1 w (.slice (some ⟨c, 0, none⟩) n n) cs := by
  subst hn
  exact ⟨_, _, rfl, Nat.le_refl _, hm, (fun e => by cases e), fun _ => ⟨c, 0, rfl, h.lt, fun i _ => by rw [Nat.zero_add, h.cell]⟩⟩
/-- a[:] of an array that is a variable. -/
theorem cut_whole {t : TypeId} {n : Nat} {e : TypeId} (ht : P.underlying t = some (.array n e)) (h : ∀ w, (sizeOf e).run P w = .ok 1 w) (hn : 0 < n) (A : Nat) (w : World) :
    (Instr.sliceAt t (.pointer (some ⟨A, 0, none⟩)) none none none).run P w = .ok (.slice (some ⟨A, 0, none⟩) n n) w := by
  have e1 : P.arrayLen t = n := by unfold Program.arrayLen; rw [ht]
  have e2 : P.elem t = e := by unfold Program.elem; rw [ht]
  rw [run_sliceAt_array_all w t ⟨A, 0, none⟩ (by rw [e1, e2]; exact ht), e2, h, e1]
  simp [slicedAt, Addr.add, show ¬ n = 0 by omega]
end

end Go.Proofs.Ytelenldabjmjbaa

/- An array of integers indexed by a variable, as a value; a slice of an array from a variable on. Nothing here speaks of a program. Each theorem names its own conditions. -/
namespace Go.Proofs.Ytelenldabjmjbaa
open Go.RowKit
set_option linter.unusedVariables false
set_option linter.unusedSimpArgs false

theorem index_ints {P : Program} {T e : TypeId} {n : Nat} {kd : IntKind} (hT : P.underlying T = some (.array n e)) (hs : ∀ w, (sizeOf e).run P w = .ok 1 w) (ha : ∀ w, (isAgg e).run P w = .ok false w) (h : List Int) (hl : h.length = n) (k : Nat) (hk : k < n) (w : World) :
    (Instr.index T (.agg (ints kd h).toArray) (.int .i64 (k : Int))).run P w = .ok (.int kd (h.getD k 0)) w := by
  have hg : (ints kd h)[k]? = some (.int kd (h.getD k 0)) := ints_get (by rw [hl]; exact hk)
  have hi : 0 ≤ (k : Int) ∧ (k : Int) < (n : Int) := by omega
  unfold Instr.index
  simp only [asIntOf, Sem.run_bind, Sem.run_pure, Result.andThen_ok, run_underlying hT, hi, hs, part, ha]
  rw [if_pos ⟨trivial, trivial⟩]
  simp only [Sem.run_bind, hs, ha, Result.andThen_ok, Int.toNat_natCast, Nat.mul_one, List.getElem?_toArray, hg, Bool.false_eq_true, if_false, Sem.run_pure]
theorem cut_from {P : Program} {t e : TypeId} {n : Nat} (ht : P.underlying t = some (.array n e)) (h : ∀ w, (sizeOf e).run P w = .ok 1 w) (w : World) (A p : Nat) (hp : p < n) :
    (Instr.sliceAt t (.pointer (some ⟨A, 0, none⟩)) (some (.int .i64 (p : Int))) none none).run P w = .ok (.slice (some ⟨A, p, none⟩) (n - p) (n - p)) w := by
  have e1 : P.arrayLen t = n := by unfold Program.arrayLen; rw [ht]
  have e2 : P.elem t = e := by unfold Program.elem; rw [ht]
  rw [run_sliceAt_array_l w t ⟨A, 0, none⟩ (by rw [e1, e2]; exact ht) .i64 (p : Int) (by omega) (by rw [e1]; omega), e2, h, e1]
  simp [slicedAt, Addr.add, show ¬ n = p by omega]
  exact fun h => h.symm

end Go.Proofs.Ytelenldabjmjbaa
