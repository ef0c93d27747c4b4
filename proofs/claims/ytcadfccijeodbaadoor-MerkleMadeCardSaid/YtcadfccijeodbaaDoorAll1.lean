/- Texts that belong together, one behind the other; each says in its own first remark what it shows. -/
import Derived.WalkKit
import Derived.WalkSpells
import Derived.WalkLawsBesides
import Derived.Lib.Hide
import Derived.Deep.QuietTactic
import Derived.BigQuiet
import Derived.Deep.RegionHeld3
import Derived.Deep.AppendLies
import Derived.OneCell
import Derived.Test.YtcadfccijeodbaaDoorRows
import Derived.ProofKit
import Derived.Deep.Slices
import Derived.Laws.Cover2
import Derived.OpenShut
import Derived.Deep.MidRow
import Derived.LaidMore
import Derived.Stop.Joined
import Derived.SevenTiedAt
import Derived.Deep.Quiet
import Derived.OrdersHeld
import Derived.Deep.RegionHeld
import Derived.ChangeKeysEq
import Derived.Laws.ResultCell
import Derived.Test.YtcadfccijeodbaaDoorProg
import Derived.Deep.CutRange
import Derived.Deep.RegionWith
import Derived.StillTailTactics
import Derived.ScopeJumps
import Derived.Control
import Derived.WalkMore
import Derived.Lib.Strings
import Derived.Lib.Slices
import Derived.Lib.Small
import Derived.Lib.Walk
import Derived.Lib.BitFns
import Derived.Laws.Slices

/- Rows of one-cell values in memory: a slice that reads as a list, carried into later worlds, cut, appended onto a row of the call's own, made a string. Each theorem names its own conditions; nothing here speaks of a program. -/
namespace Go.Proofs.YtcadfccijeodbaaDoor
open Go.RowKit

/-- A slice that reads as a list of one-cell values. -/
def Row1 (w : World) (v : Value) (vs : List Value) : Prop :=
  ∃ a cap, v = .slice a vs.length cap ∧ vs.length ≤ cap ∧ cap ≤ maxLen ∧ (a = none → cap = 0) ∧ (vs ≠ [] → ∃ b off, a = some ⟨b, off, none⟩ ∧ b < w.heap.size ∧ ∀ i, i < vs.length → w.cell? ⟨b, off + i, none⟩ = vs[i]?)

section
variable {P : Program} {w w' : World} {v : Value} {vs : List Value}

theorem Row1.nil (w : World) : Row1 w (.slice none 0 0) [] := ⟨none, 0, rfl, Nat.le_refl _, Nat.zero_le _, fun _ => rfl, fun h => absurd rfl h⟩

/-- In a world in which the cells of the old blocks are as they were. -/
theorem Row1.same (h : Row1 w v vs) (hs : w.heap.size ≤ w'.heap.size) (hc : ∀ p : Addr, v.ownBlock = some p.block → p.block < w.heap.size → w'.cell? p = w.cell? p) : Row1 w' v vs := by
  obtain ⟨a, cap, rfl, h1, h2, h3, h4⟩ := h
  refine ⟨a, cap, rfl, h1, h2, h3, fun hne => ?_⟩
  obtain ⟨b, off, rfl, hb, hcell⟩ := h4 hne
  exact ⟨b, off, rfl, Nat.lt_of_lt_of_le hb hs, fun i hi => (hc ⟨b, off + i, none⟩ rfl hb).trans (hcell i hi)⟩

theorem Row1.below (h : Row1 w v vs) (hb : Below w.heap.size w w') : Row1 w' v vs := h.same hb.size fun _ _ hp => hb.cell hp
theorem Row1.drew (h : Row1 w v vs) : Row1 w.drew v vs := h
theorem Row1.drewN (h : Row1 w v vs) (n : Nat) : Row1 (w.drewN n) v vs := h
theorem Row1.alloc (h : Row1 w v vs) (o : Obj) : Row1 (w.alloc o) v vs := h.below ((Below.refl _ _).alloc (Nat.le_refl _) o)
theorem Row1.grown {row : Option Nat} (h : Row1 w v vs) (hg : w.grownBy w' row) (hne : ∀ k, row = some k → v.ownBlock ≠ some k) : Row1 w' v vs :=
  h.same hg.size fun p hp hlt => hg.cell_far p hlt fun e => hne p.block e.symm hp
theorem Row1.store (h : Row1 w v vs) {a : Addr} (ha : v.ownBlock ≠ some a.block) (u : Value) : Row1 (w.setCell a u) v vs := by
  refine h.same (by simp) fun p hp _ => ?_
  refine World.cell?_of_block (w := w) ?_
  exact Below.heap_setCell w a u p.block (fun e => ha (by rw [hp, e]))

theorem own_drewN {base : Nat} {e : TypeId} {size n : Nat} {xs : List Value} (h : w.ownsRow base e size v n xs) (k : Nat) : (w.drewN k).ownsRow base e size v n xs := h
theorem below_drewN {B : Nat} {a : World} (h : Below B a w) (n : Nat) : Below B a (w.drewN n) := h.trans ⟨rfl, rfl, rfl, Nat.le_refl _, fun _ _ => rfl⟩

/-- A row of the call's own reads as its list. -/
theorem Row1.of_own {base : Nat} {e : TypeId} {n : Nat} (h : w.ownsRow base e 1 v n vs) : Row1 w v vs := by
  have hl : vs.length = n := by have := h.1; omega
  rcases h.2 with ⟨rfl, h0⟩ | ⟨g, cap, cur, rfl, hb, hg, h1, h2, _, _⟩
  · have : vs = [] := List.eq_nil_of_length_eq_zero (by omega)
    subst this
    exact Row1.nil w
  · refine ⟨some ⟨g, 0, none⟩, cap, by rw [hl], by omega, h2, (fun e => by cases e), fun _ => ⟨g, 0, rfl, (h.lt g rfl).2, fun i hi => ?_⟩⟩
    rw [Nat.zero_add]
    exact h.cellAt i (by omega)

theorem Row1.length_le (h : Row1 w v vs) : vs.length ≤ maxLen := by
  obtain ⟨a, cap, _, h1, h2, _⟩ := h
  omega

/-- A row of its own lies beyond what was there. -/
theorem Row1.own_ne {base : Nat} {e : TypeId} {size n : Nat} {xs : List Value} {x : Value} (h : w.ownsRow base e size x n xs) {k : Nat} (hk : k < base) : x.ownBlock ≠ some k := by
  intro e
  have := (h.lt k e).1
  omega

/-- append OF WHAT READS AS A LIST, onto a row of the call's own. -/
theorem run_append_row (t ty e : TypeId) (i : TypeInfo) (z : Value) (bytes : Nat) (ht : P.underlying t = some (.slice e)) (hi : P.info? e = some i) (hz : i.zero = some z)
    (hsize : i.size = 1) (hby : i.bytes = bytes) (hzs : z.cells.size = 1) (base : Nat) (x : Value) (n : Nat) (xs : List Value) (hown : w.ownsRow base e 1 x n xs)
    (hv : Row1 w v vs) (h1 : ∀ u ∈ vs, u.oneCell' = true) (h63 : n + vs.length ≤ maxLen) (hbytes : (n + vs.length) * bytes ≤ 140737488355328) (hbase : base ≤ w.heap.size) :
    ∃ x' w', (Builtin.append_ #[t, t] ty #[x, v]).run P w = .ok x' w' ∧ w'.ownsRow base e 1 x' (n + vs.length) (xs ++ vs) ∧ w.grownBy w' x.ownBlock := by
  obtain ⟨a, cap, rfl, hc1, hc2, hc3, hc4⟩ := hv
  cases a with
  | none =>
    have hcap := hc3 rfl
    have : vs = [] := List.eq_nil_of_length_eq_zero (by omega)
    subst this
    subst hcap
    refine ⟨x, w, run_append_owned_none w base t ty e i 1 ht hi x n xs hown, ?_, World.grownBy.refl _ _⟩
    simpa using hown
  | some ad =>
    have hnews : ∀ j u, vs[j]? = some u → w.cell? (ad.add j) = some u := by
      intro j u hu
      have hne : vs ≠ [] := by intro e; subst e; simp at hu
      obtain ⟨b, off, he, hb, hcell⟩ := hc4 hne
      cases he
      have hj : j < vs.length := by
        rcases Nat.lt_or_ge j vs.length with h | h
        · exact h
        · rw [List.getElem?_eq_none h] at hu; cases hu
      rw [WideShapes.add_plain, hcell j hj, hu]
    obtain ⟨x', w', hr, h2, h3, _⟩ := run_append_own (P := P) w base t ty e i z 1 bytes ht hi hz hsize hby hzs (by omega) x n xs hown ad vs.length cap vs (by omega) hnews h1 h63 hbytes hbase
    exact ⟨x', w', hr, h2, h3⟩

theorem wp_append_row {o : Oper} {a : Act} {K : Act → World → Prop} {Q : Exit → Act → World → Prop} (s y : Operand) (t : TypeId)
    (ho : o.op = .call { callee := .builtin .append, args := #[s, y], argTypes := #[t, t] })
    (base : Nat) (e : TypeId) (i : TypeInfo) (z : Value) (bytes : Nat) (ht : P.underlying t = some (.slice e)) (hi : P.info? e = some i) (hz : i.zero = some z)
    (hsize : i.size = 1) (hby : i.bytes = bytes) (hzs : z.cells.size = 1)
    (x : Value) (n : Nat) (xs : List Value) (hs : a.eval s = x) (hown : w.ownsRow base e 1 x n xs)
    (hx : a.eval y = v) (hv : Row1 w v vs) (h1 : ∀ u ∈ vs, u.oneCell' = true)
    (h63 : n + vs.length ≤ maxLen) (hbytes : (n + vs.length) * bytes ≤ 140737488355328) (hbase : base ≤ w.heap.size)
    (h : ∀ x' w', w'.ownsRow base e 1 x' (n + vs.length) (xs ++ vs) → w.grownBy w' x.ownBlock → K (a.put o.dst x') w') : o.wp P a w K Q := by
  obtain ⟨x', w', hr, h2, h3⟩ := run_append_row (P := P) (w := w) t o.type e i z bytes ht hi hz hsize hby hzs base x n xs hown hv h1 h63 hbytes hbase
  unfold Oper.wp execOp
  simp only [ho, resolve, invoke, builtin, Sem.run_bind, Sem.run_pure, Result.andThen_ok, List.map_toArray, List.map_cons, List.map_nil, hs, hx, hr]
  exact h x' w' h2 h3

/-- THE SAME, as the walk's law. -/
theorem wpList_append_row {ops : Array Oper} {rest : List Oper} {o : Oper} {a : Act} {Q : Exit → Act → World → Prop} (hgd : o.guard = none) (s y : Operand) (t : TypeId)
    (ho : o.op = .call { callee := .builtin .append, args := #[s, y], argTypes := #[t, t] })
    (base : Nat) (e : TypeId) (i : TypeInfo) (z : Value) (bytes : Nat) (ht : P.underlying t = some (.slice e)) (hi : P.info? e = some i) (hz : i.zero = some z)
    (hsize : i.size = 1) (hby : i.bytes = bytes) (hzs : z.cells.size = 1)
    (x : Value) (n : Nat) (xs : List Value) (hs : a.eval s = x) (hown : w.ownsRow base e 1 x n xs)
    (hx : a.eval y = v) (hv : Row1 w v vs) (h1 : ∀ u ∈ vs, u.oneCell' = true)
    (h63 : n + vs.length ≤ maxLen) (hbytes : (n + vs.length) * bytes ≤ 140737488355328) (hbase : base ≤ w.heap.size)
    (h : ∀ x' w', w'.ownsRow base e 1 x' (n + vs.length) (xs ++ vs) → w.grownBy w' x.ownBlock → wpList P ops Q rest (a.put o.dst x') w') : wpList P ops Q (o :: rest) a w :=
  wpList_plain hgd fun _ hK => wp_append_row s y t ho base e i z bytes ht hi hz hsize hby hzs x n xs hs hown hx hv h1 h63 hbytes hbase fun x' w' h2 h3 => hK _ _ (h x' w' h2 h3)

/-- THE SAME, as a step of a region that draws its order. -/
theorem step_append_row {ops : Array Oper} {o : Oper} {a : Act} {K : Act → World → Prop} {Q : Exit → Act → World → Prop} {E : Prop} (hgd : o.guard = none) (s y : Operand) (t : TypeId)
    (ho : o.op = .call { callee := .builtin .append, args := #[s, y], argTypes := #[t, t] })
    (base : Nat) (e : TypeId) (i : TypeInfo) (z : Value) (bytes : Nat) (ht : P.underlying t = some (.slice e)) (hi : P.info? e = some i) (hz : i.zero = some z)
    (hsize : i.size = 1) (hby : i.bytes = bytes) (hzs : z.cells.size = 1)
    (x : Value) (n : Nat) (xs : List Value) (hs : a.eval s = x) (hown : w.ownsRow base e 1 x n xs)
    (hx : a.eval y = v) (hv : Row1 w v vs) (h1 : ∀ u ∈ vs, u.oneCell' = true)
    (h63 : n + vs.length ≤ maxLen) (hbytes : (n + vs.length) * bytes ≤ 140737488355328) (hbase : base ≤ w.heap.size)
    (h : ∀ x' w', w'.ownsRow base e 1 x' (n + vs.length) (xs ++ vs) → w.grownBy w' x.ownBlock → K (a.put o.dst x') w') :
    if Region.wanted o (yielded ops a.tmps) = true then Oper.wp P o a w K Q else E := by
  have hw : Region.wanted o (yielded ops a.tmps) = true := by simp [Region.wanted, hgd]
  rw [if_pos hw]
  exact wp_append_row s y t ho base e i z bytes ht hi hz hsize hby hzs x n xs hs hown hx hv h1 h63 hbytes hbase h

/-- A new block of cells, as a row. -/
theorem Row1.made (w : World) (c : Array Value) (e : TypeId) (n m : Nat) (l : List Value) (hn : w.heap.size = n) (hc : c.toList = l) (hl : l.length = m) (hm : m ≤ maxLen) : Row1 (w.alloc (.cells c e)) (.slice (some ⟨n, 0, none⟩) m m) l := by
  subst hn; subst hl; subst hc
  refine ⟨_, _, rfl, Nat.le_refl _, hm, (fun e => by cases e), fun _ => ⟨w.heap.size, 0, rfl, by simp, fun i hi => ?_⟩⟩
  rw [Nat.zero_add, World.cell?_alloc_at _ _ _ _ rfl]
  simp

/-- A row of the call's own, where nothing that was there has turned. -/
theorem own_below {base : Nat} {e : TypeId} {size n : Nat} {xs : List Value} {x : Value} (h : w.ownsRow base e size x n xs) (hb : Below w.heap.size w w') : w'.ownsRow base e size x n xs := by
  obtain ⟨h1, h2⟩ := h
  refine ⟨h1, ?_⟩
  rcases h2 with h2 | ⟨g, cap, cur, r1, r2, r3, r4⟩
  · exact Or.inl h2
  · refine Or.inr ⟨g, cap, cur, r1, r2, ?_, r4⟩
    have hg : g < w.heap.size := by
      rcases Nat.lt_or_ge g w.heap.size with h | h
      · exact h
      · rw [Array.getElem?_eq_none h] at r3; cases r3
    rw [hb.block g hg, r3]

theorem own_mono {base base' : Nat} {e : TypeId} {size n : Nat} {xs : List Value} {x : Value} (h : w.ownsRow base e size x n xs) (hb : base' ≤ base) : w.ownsRow base' e size x n xs := by
  obtain ⟨h1, h2⟩ := h
  refine ⟨h1, ?_⟩
  rcases h2 with h2 | ⟨g, cap, cur, r1, r2, r3⟩
  · exact Or.inl h2
  · exact Or.inr ⟨g, cap, cur, r1, Nat.le_trans hb r2, r3⟩

/-- A block of cells of the call's own that is known whole: a struct behind a pointer, a variable. -/
def Blk (w : World) (c : Nat) (cs : List Value) (t : TypeId) : Prop := w.heap[c]? = some (.cells cs.toArray t (0, 0))

theorem Blk.cell {c : Nat} {cs : List Value} {t : TypeId} (h : Blk w c cs t) (i : Nat) : w.cell? ⟨c, i, none⟩ = cs[i]? := by
  unfold Blk at h
  simp [World.cell?, h]
theorem Blk.free {c : Nat} {cs : List Value} {t : TypeId} (h : Blk w c cs t) (i : Nat) : w.frozen? ⟨c, i, none⟩ = false := by
  unfold Blk at h
  simp [World.frozen?, h]
theorem Blk.lt {c : Nat} {cs : List Value} {t : TypeId} (h : Blk w c cs t) : c < w.heap.size := lt_of_block h
theorem Blk.set {c : Nat} {cs : List Value} {t : TypeId} (h : Blk w c cs t) (i : Nat) (u : Value) : Blk (w.setCell ⟨c, i, none⟩ u) c (cs.set i u) t := by
  have := heap_setCell_same w c i cs.toArray t u h
  unfold Blk
  rw [this]
  simp
theorem Blk.same {c : Nat} {cs : List Value} {t : TypeId} (h : Blk w c cs t) (he : w'.heap[c]? = w.heap[c]?) : Blk w' c cs t := he.trans h
theorem Blk.drewN {c : Nat} {cs : List Value} {t : TypeId} (h : Blk w c cs t) (n : Nat) : Blk (w.drewN n) c cs t := h
theorem Blk.grown {c : Nat} {cs : List Value} {t : TypeId} {row : Option Nat} (h : Blk w c cs t) (hg : w.grownBy w' row) (hne : row ≠ some c) : Blk w' c cs t :=
  h.same (hg.block c h.lt (fun e => hne e.symm))
theorem Blk.made (w : World) (cs : List Value) (t : TypeId) : Blk (w.alloc (.cells cs.toArray t)) w.heap.size cs t := heap_alloc_new w _

theorem grownBy_trans {a b d : World} {row : Option Nat} (h : a.grownBy b row) (g : b.grownBy d row) : a.grownBy d row :=
  ⟨g.os.trans h.os, g.tape.trans h.tape, g.output.trans h.output, Nat.le_trans h.size g.size, fun k hk hr => (g.block k (Nat.lt_of_lt_of_le hk h.size) hr).trans (h.block k hk hr)⟩
theorem grownBy_of_none {a b : World} {row : Option Nat} (h : a.grownBy b none) : a.grownBy b row :=
  ⟨h.os, h.tape, h.output, h.size, fun k hk _ => h.block k hk (by simp)⟩
theorem grownBy_set {a b : World} {c : Nat} (h : a.grownBy b (some c)) (i : Nat) (u : Value) : a.grownBy (b.setCell ⟨c, i, none⟩ u) (some c) :=
  ⟨h.os, h.tape, h.output, by simpa [World.setCell] using h.size, fun k hk hr => (heap_setCell_other b ⟨c, i, none⟩ k u (fun e => hr (by rw [e]))).trans (h.block k hk hr)⟩
theorem grownBy_drewN {a b : World} {row : Option Nat} (h : a.grownBy b row) (n : Nat) : a.grownBy (b.drewN n) row := ⟨h.os, h.tape, h.output, h.size, h.block⟩
theorem grownBy_fromN {a b : World} {row : Option Nat} {n : Nat} (h : (a.drewN n).grownBy b row) : a.grownBy b row := ⟨h.os, h.tape, h.output, h.size, h.block⟩
theorem grownBy_refl (a : World) (row : Option Nat) : a.grownBy a row := World.grownBy.refl a row
/-- New blocks alone, and writes to one that is new. -/
theorem below_of_grown {a b d : World} {c : Nat} (h : Below a.heap.size a b) (hg : b.grownBy d (some c)) (hc : a.heap.size ≤ c) : Below a.heap.size a d :=
  h.grown hg h.size (fun k hk => by cases hk; exact hc)
theorem grown_of_below {a b : World} (h : Below a.heap.size a b) (row : Option Nat) : a.grownBy b row :=
  ⟨h.os, h.tape, h.output, h.size, fun k hk _ => h.block k hk⟩
/-- A row of the call's own, where another block was written. -/
theorem own_grown {base : Nat} {e : TypeId} {size n : Nat} {xs : List Value} {x : Value} {row : Option Nat} (h : w.ownsRow base e size x n xs) (hg : w.grownBy w' row) (hne : ∀ k, row = some k → x.ownBlock ≠ some k) : w'.ownsRow base e size x n xs := by
  refine h.kept hg ?_
  cases hx : x.ownBlock with
  | none => exact Or.inl rfl
  | some k =>
    right
    intro e
    exact hne k e.symm hx
/-- A part of what reads as a list. -/
theorem Row1.cut {b off len cap : Nat} (h : Row1 w (.slice (some ⟨b, off, none⟩) len cap) vs) (i j : Nat) (hij : i ≤ j) (hj : j ≤ vs.length) : Row1 w (.slice (some ⟨b, off + i, none⟩) (j - i) (cap - i)) ((vs.drop i).take (j - i)) := by
  obtain ⟨a, cap', e, h1, h2, h3, h4⟩ := h
  cases e
  have hl : ((vs.drop i).take (j - i)).length = j - i := by simp; omega
  refine ⟨some ⟨b, off + i, none⟩, cap - i, by rw [hl], by rw [hl]; omega, by omega, (fun e => by cases e), fun hne => ?_⟩
  have hv : vs ≠ [] := by intro e; subst e; simp at hne
  obtain ⟨b', off', e, hb, hc⟩ := h4 hv
  cases e
  refine ⟨b, off + i, rfl, hb, fun k hk => ?_⟩
  rw [hl] at hk
  rw [Nat.add_assoc, hc (i + k) (by omega), List.getElem?_take, if_pos hk, List.getElem?_drop]

/-- A part of what reads as a list, where the address is a letter. -/
theorem Row1.sliced {ad : Addr} {len cap : Nat} (h : Row1 w (.slice (some ad) len cap) vs) (i n : Nat) (hj : i + n ≤ vs.length) : Row1 w (.slice (some (ad.add i)) n (cap - i)) ((vs.drop i).take n) := by
  obtain ⟨a, cap', e, h1, h2, h3, h4⟩ := h
  cases e
  have hl : ((vs.drop i).take n).length = n := by simp; omega
  refine ⟨some (ad.add i), cap - i, by rw [hl], by rw [hl]; omega, by omega, (fun e => by cases e), fun hne => ?_⟩
  have hv : vs ≠ [] := by intro e; subst e; simp at hne
  obtain ⟨b', off', e, hb, hc⟩ := h4 hv
  cases e
  refine ⟨b', off' + i, by rw [WideShapes.add_plain], hb, fun k hk => ?_⟩
  rw [hl] at hk
  rw [Nat.add_assoc, hc (i + k) (by omega), List.getElem?_take, if_pos hk, List.getElem?_drop]
/-- Nothing, at whatever address. -/
theorem Row1.empty (w : World) (ad : Addr) (cap : Nat) (hm : cap ≤ maxLen) : Row1 w (.slice (some ad) 0 cap) [] :=
  ⟨some ad, cap, rfl, Nat.zero_le _, hm, (fun e => by cases e), fun h => absurd rfl h⟩

/-- A byte as a cell. -/
def bval (b : UInt8) : Value := .int .u8 (b.toNat : Int)
theorem bval_one (l : List UInt8) : ∀ u ∈ l.map bval, u.oneCell' = true := by
  intro u hu
  obtain ⟨c, _, rfl⟩ := List.mem_map.1 hu
  rfl

theorem foldl_bytes : ∀ (l : List UInt8) (s : ByteArray), ((l.map fun b => (b.toNat : Int)).foldl (fun r n => r.push (UInt8.ofNat n.toNat)) s).data = s.data ++ l.toArray
  | [], s => by simp
  | b :: l, s => by
    simp only [List.map_cons, List.foldl_cons]
    rw [foldl_bytes l]
    simp [ByteArray.push]

/-- A slice of byte slices that reads as the list of lists. -/
def RowB (w : World) (v : Value) (ls : List (List UInt8)) : Prop :=
  ∃ vals : List Value, Row1 w v vals ∧ vals.length = ls.length ∧ ∀ (i : Nat) (x : Value) (l : List UInt8), vals[i]? = some x → ls[i]? = some l → Row1 w x (l.map bval)

theorem RowB.drew {ls : List (List UInt8)} (h : RowB w v ls) : RowB w.drew v ls := h
theorem RowB.below {ls : List (List UInt8)} (h : RowB w v ls) (hb : Below w.heap.size w w') : RowB w' v ls := by
  obtain ⟨vals, h1, h2, h3⟩ := h
  exact ⟨vals, h1.below hb, h2, fun i x l hx hl => (h3 i x l hx hl).below hb⟩

/-- string(b): the text of the bytes. -/
theorem run_string_row (src dst e : TypeId) (hs : P.underlying src = some (.slice e)) (he : P.underlying e = some (.int .u8)) (hd : P.underlying dst = some .string) {l : List UInt8} (h : Row1 w v (l.map bval)) :
    (convert src dst v).run P w = .ok (.string ⟨l.toArray⟩) w := by
  obtain ⟨a, cap, rfl, hc1, hc2, hc3, hc4⟩ := h
  rw [run_convert_bytes_string w src dst e a _ cap hs he hd]
  cases a with
  | none =>
    have hcap := hc3 rfl
    have : l = [] := by
      have : (l.map bval).length = 0 := by omega
      exact List.eq_nil_of_length_eq_zero (by simpa using this)
    subst this
    rfl
  | some ad =>
    have hload : (loadCells ad (l.map bval).length).run P w = .ok ((l.map fun b => (b.toNat : Int)).map (Value.int .u8)).toArray w := by
      rw [show (l.map fun b => (b.toNat : Int)).map (Value.int .u8) = l.map bval from by simp [bval, Function.comp_def]]
      have := run_loadCells_list (P := P) (w := w) ad (l.map bval) (fun j u hu => by
        have hne : l.map bval ≠ [] := by intro e; rw [e] at hu; simp at hu
        obtain ⟨b, off, he, hb, hcell⟩ := hc4 hne
        cases he
        have hj : j < (l.map bval).length := by
          rcases Nat.lt_or_ge j (l.map bval).length with h | h
          · exact h
          · rw [List.getElem?_eq_none h] at hu; cases hu
        rw [WideShapes.add_plain, hcell j hj, hu])
      exact this
    rw [run_bytesToString w ad _ cap _ hload]
    congr 2
    have := foldl_bytes l ByteArray.empty
    generalize (List.foldl (fun r n => r.push (UInt8.ofNat n.toNat)) ByteArray.empty (l.map fun b => (b.toNat : Int))) = r at this ⊢
    cases r
    simpa using this
end

end Go.Proofs.YtcadfccijeodbaaDoor

/- A law whose every call returns true and leaves all that was there as it was holds as a row: one theorem for every law, whatever its parameters' types. No condition of its own. -/
namespace Go.Proofs.YtcadfccijeodbaaDoor
open Go.ChangeShapes Go.WideShapes Go.ChangeAt Go.RowKit

theorem trodAll_len {H : Type} {enc : TypeId × Value → H} {P : Program} {w : World} {base : Nat} {sp : Nat → Bool} {held : Bool} :
    ∀ {ts : List TypeId} {vs : List Value} {ds : List (DataW H)} {ps : List MemPlace}, DataW.TrodAll enc P w base sp held ts vs ds ps → ds.length = ts.length
  | [], _, _, _, h => by
    obtain ⟨rfl, rfl, rfl⟩ := trodAll_nil h
    rfl
  | _ :: _, _, _, _, h => by
    obtain ⟨v, vs1, d, ds1, a, b, rfl, rfl, rfl, g1, g2⟩ := trodAll_cons h
    simp [trodAll_len g2]

theorem trodAll_stays {H : Type} {enc : TypeId × Value → H} {P : Program} (hl : laidOutB P = true) {W W' : World} {base : Nat} {sp' : Nat → Bool} :
    ∀ {ts : List TypeId} {vs : List Value} {ds : List (DataW H)} {ps : List MemPlace}, (ts.all fun t => P.readableRec t && decide (t < P.types.size)) = true →
    DataW.TrodAll enc P W base (fun _ => true) true ts vs ds ps → (∀ p ∈ ps, W.sameAt W' p) → (∀ p ∈ ps, sp' p.block = true) → DataW.TrodAll enc P W' base sp' true ts vs ds ps
  | [], _, _, _, _, h, _, _ => by
    obtain ⟨rfl, rfl, rfl⟩ := trodAll_nil h
    exact trodAll_mk0
  | t :: ts, _, _, _, hr, h, h1, h2 => by
    obtain ⟨v, vs1, d, ds1, a, b, rfl, rfl, rfl, g1, g2⟩ := trodAll_cons h
    rw [List.all_cons, Bool.and_eq_true, Bool.and_eq_true] at hr
    obtain ⟨⟨r1, r2⟩, r3⟩ := hr
    exact ⟨a, b, WideElems.Trod_stays hl r1 (of_decide_eq_true r2) g1 (fun p hp => h1 p (List.mem_append_left _ hp)) (fun p hp => h2 p (List.mem_append_left _ hp)),
      trodAll_stays hl r3 g2 (fun p hp => h1 p (List.mem_append_right _ hp)) (fun p hp => h2 p (List.mem_append_right _ hp)), rfl⟩

/-- What a law's walk owes: of whatever arguments that can be read, true, and nothing that was there has turned. -/
def LawWalk {H : Type} (enc : TypeId × Value → H) (P : Program) (f : FuncId) (ts : List TypeId) : Prop :=
  ∀ (W : World) (base : Nat) (args : Array Value) (ds : List (DataW H)) (ps : List MemPlace),
    (∀ (j : Nat) (t : TypeId) (v : Value), ts[j]? = some t → args[j]? = some v → Value.okWide P W .any base t v) →
    DataW.TrodAll enc P W 0 (fun _ => true) true ts args.toList ds ps → (∀ x ∈ ps, x.block < W.heap.size) → W.noneFrozen ps →
    Calls P f args W fun e w' => e = .returned (.bool true) ∧ Below W.heap.size W w'

theorem law_lift {H : Type} {enc : TypeId × Value → H} {C : Checked} {os : Os} {f : FuncId} {fn : Func} {s : ChangeSpec} {tb : TypeId}
    (own : ownKnob C.prog.godebug = none) (laid : laidOutB C.prog = true) (started : os.Started)
    (hinit : C.prog.inits.idxOf? f = none) (hf : C.prog.funcs[f]? = some fn) (hvars : s.vars = [])
    (hread : (fn.params.toList.all fun t => C.prog.readableRec t && decide (t < C.prog.types.size)) = true)
    (hres : fn.resultTypes = #[tb]) (hb : C.prog.underlying tb = some .bool)
    (hs : ∀ ds : List (DataW H), ds.length = fn.params.toList.length → (s.fn H ds).results = [.lit (.bool true)] ∧ (s.fn H ds).args = ds ∧ (s.fn H ds).vars = [])
    (hwit : ∃ (w : World) (tape : Tape) (i : Input), w.os = os ∧ World.Shaped C.prog (w.forCall tape i) ∧ i.vars = [] ∧ Input.okWide C.prog (w.forCall tape i) Reach.any w.heap.size f i ∧
      ChangeSpec.pre6 enc C.prog fn s [] false (w.forCall tape i).memory i.args ∧ ({} : Assume).holds C.prog (lone (Frame.enter C.prog f i.args CallKind.normal) [] (w.forCall tape i)))
    (walk : LawWalk enc C.prog f fn.params.toList) :
    ReturnsInHanded {} C os f .any (s.pre6 enc C.prog fn [] false) (s.post enc C.prog fn false true false false) := by
  refine returnsInHanded_of_change own started hinit hf hwit ?_
  intro W base args ds gs before hval hW _ _
  have hW' := hW
  have hlt := hW.lt
  obtain ⟨p, q, hA, hV, rfl, hfz, hnd⟩ := hW
  rw [hvars] at hV
  obtain ⟨rfl, rfl⟩ := trodVars_none hV
  rw [List.append_nil] at hlt hfz
  have hlen := trodAll_len hA
  obtain ⟨e1, e2, e3⟩ := hs ds hlen
  refine (walk W base args ds p (fun j t v hj hv => hval j t v (by rw [← Array.getElem?_toList]; exact hj) hv) hA hlt hfz).mono ?_
  rintro e w' ⟨rfl, hbel⟩
  refine ⟨_, rfl, ds, [], p ++ [], [], p, [], hW', ?_, ?_, ?_, ?_, ?_⟩
  · rw [List.append_nil, e1, hres]
    exact trodAll_mk1 (shut_bool hb _)
  · rw [List.append_nil, e2]
    exact trodAll_stays laid hread hA (fun x hx => hbel.same (hlt x hx)) (fun x hx => by simpa using hlt x hx)
  · rw [hvars, List.append_nil, e3]
    rfl
  · exact hbel.frame _
  · intro h
    cases h

section
variable {H : Type} {enc : TypeId × Value → H} {P : Program} {W : World} {sp : Nat → Bool}

/-- A slice of one-cell elements, opened out of its reading: the list of its elements; each reads by itself. -/
theorem row1_of_trod {t e : TypeId} {fuel : Nat} {v : Value} {y : DataW H × List MemPlace} (ht : P.underlying t = some (.slice e)) (hc : P.cellsOf e = 1)
    (hf : DataW.trod enc P W 0 (fun _ => true) true fuel t [v] = some y) :
    ∃ vs : List Value, Row1 W v vs ∧ ∀ x ∈ vs, ∃ n y, DataW.trod enc P W 0 (fun _ => true) true n e [x] = some y := by
  rcases Deep.open_slice1 ht hc hf with ⟨hcs, _⟩ | ⟨a1, len1, cap1, m, n, V, D, Pl, hcs, hb, hl, hm, hmm, _, hx⟩
  · obtain rfl : v = .slice none 0 0 := by simpa using hcs
    exact ⟨[], Row1.nil W, fun x hx => by cases hx⟩
  · obtain rfl : v = .slice (some a1) len1 cap1 := by simpa using hcs
    simp only [if_true] at hmm
    refine ⟨(List.range len1).map V, ⟨some a1, cap1, by simp, by simpa using hl, hm, (fun e => by cases e), fun hne => ?_⟩, ?_⟩
    · have h0 : 0 < len1 := by
        rcases Nat.eq_zero_or_pos len1 with h | h
        · subst h; exact absurd rfl hne
        · exact h
      obtain ⟨b, off, spot⟩ := a1
      have hspot : spot = none := by simpa [Addr.add] using World.cell?_spot ((hx 0 (by omega)).1)
      subst hspot
      refine ⟨b, off, rfl, ?_, fun i hi => ?_⟩
      · have := (hx 0 (by omega)).1
        exact World.block_lt_of_cell? W _ this
      · have hi' : i < len1 := by simpa using hi
        rw [← add_plain, (hx i (by omega)).1]
        simp [hi']
    · intro x hxm
      obtain ⟨i, hi, rfl⟩ := List.mem_map.1 hxm
      have hi' : i < len1 := by simpa using hi
      exact ⟨n, _, (hx i (by omega)).2⟩

/-- A slice of one-cell elements, opened: the list of its elements; each reads by itself. -/
theorem open_row1 {base0 : Nat} {r : Reach} {t e : TypeId} {v : Value} {d : DataW H} {ps : List MemPlace} (ht : P.underlying t = some (.slice e)) (hc : P.cellsOf e = 1)
    (hval : Value.okWide P W r base0 t v) (hd : DataW.Trod enc P W 0 (fun _ => true) true t v d ps) :
    ∃ vs : List Value, Row1 W v vs ∧ ∀ x ∈ vs, ∃ n y, DataW.trod enc P W 0 (fun _ => true) true n e [x] = some y := by
  obtain ⟨a, len, cap, rfl⟩ := okWide_slice ht hval
  obtain ⟨fuel, hf⟩ := hd
  exact row1_of_trod (y := (d, ps)) ht hc (by simpa [Value.cells] using hf)

theorem cell_float {e : TypeId} {k : FloatKind} (he : P.underlying e = some (.float k)) {n : Nat} {x : Value} {y : DataW H × List MemPlace}
    (h : DataW.trod enc P W 0 sp true n e [x] = some y) : ∃ b, x = .float k b ∧ (Lit.float k b).wf = true := by
  cases n with
  | zero => simp [DataW.trod] at h
  | succ n =>
    unfold DataW.trod at h
    rw [he] at h
    cases x <;> simp at h
    rename_i k' b
    obtain ⟨⟨rfl, h2⟩, _⟩ := h
    exact ⟨b, rfl, h2⟩

theorem cell_int {e : TypeId} {k : IntKind} (he : P.underlying e = some (.int k)) {n : Nat} {x : Value} {y : DataW H × List MemPlace}
    (h : DataW.trod enc P W 0 sp true n e [x] = some y) : ∃ b, x = .int k b ∧ (Lit.int k b).wf = true := by
  cases n with
  | zero => simp [DataW.trod] at h
  | succ n =>
    unfold DataW.trod at h
    rw [he] at h
    cases x <;> simp at h
    rename_i k' b
    obtain ⟨⟨rfl, h2⟩, _⟩ := h
    exact ⟨b, rfl, h2⟩

/-- What each element is, of all of them. -/
theorem list_of_all {α : Type} {f : α → Value} {p : α → Prop} : ∀ {vs : List Value}, (∀ x ∈ vs, ∃ a, x = f a ∧ p a) → ∃ l : List α, vs = l.map f ∧ ∀ a ∈ l, p a
  | [], _ => ⟨[], rfl, fun a h => by cases h⟩
  | v :: vs, h => by
    obtain ⟨a, rfl, ha⟩ := h v (List.mem_cons_self ..)
    obtain ⟨l, rfl, hl⟩ := list_of_all (fun x hx => h x (List.mem_cons_of_mem _ hx))
    exact ⟨a :: l, rfl, fun b hb => by
      rcases List.mem_cons.1 hb with rfl | hb
      · exact ha
      · exact hl b hb⟩

theorem open_floats {base0 : Nat} {r : Reach} {t e : TypeId} {v : Value} {d : DataW H} {ps : List MemPlace} {k : FloatKind} (ht : P.underlying t = some (.slice e)) (he : P.underlying e = some (.float k)) (hc : P.cellsOf e = 1)
    (hval : Value.okWide P W r base0 t v) (hd : DataW.Trod enc P W 0 (fun _ => true) true t v d ps) : ∃ zs : List Nat, Row1 W v (zs.map (.float k)) := by
  obtain ⟨vs, h1, h2⟩ := open_row1 ht hc hval hd
  obtain ⟨l, rfl, _⟩ := list_of_all (f := Value.float k) (p := fun _ => True) (fun x hx => by
    obtain ⟨n, y, h⟩ := h2 x hx
    obtain ⟨b, rfl, _⟩ := cell_float he h
    exact ⟨b, rfl, trivial⟩)
  exact ⟨l, h1⟩

theorem open_numbers {base0 : Nat} {r : Reach} {t e : TypeId} {v : Value} {d : DataW H} {ps : List MemPlace} {k : IntKind} (ht : P.underlying t = some (.slice e)) (he : P.underlying e = some (.int k)) (hc : P.cellsOf e = 1)
    (hval : Value.okWide P W r base0 t v) (hd : DataW.Trod enc P W 0 (fun _ => true) true t v d ps) : ∃ zs : List Int, Row1 W v (zs.map (.int k)) ∧ ∀ n ∈ zs, (Lit.int k n).wf = true := by
  obtain ⟨vs, h1, h2⟩ := open_row1 ht hc hval hd
  obtain ⟨l, rfl, hl⟩ := list_of_all (f := Value.int k) (p := fun n => (Lit.int k n).wf = true) (fun x hx => by
    obtain ⟨n, y, h⟩ := h2 x hx
    exact cell_int he h)
  exact ⟨l, h1, hl⟩

theorem bytes_of_trod {t e : TypeId} {fuel : Nat} {v : Value} {y : DataW H × List MemPlace} (ht : P.underlying t = some (.slice e)) (he : P.underlying e = some (.int .u8)) (hc : P.cellsOf e = 1)
    (hf : DataW.trod enc P W 0 (fun _ => true) true fuel t [v] = some y) : ∃ l : List UInt8, Row1 W v (l.map bval) := by
  obtain ⟨vs, h1, h2⟩ := row1_of_trod ht hc hf
  obtain ⟨l, rfl, _⟩ := list_of_all (f := bval) (p := fun _ => True) (fun x hx => by
    obtain ⟨n, y, h⟩ := h2 x hx
    obtain ⟨b, rfl, hw⟩ := cell_int he h
    have hb : 0 ≤ b ∧ b ≤ 255 := by simpa [Lit.wf, IntKind.min, IntKind.max, IntKind.signed, IntKind.bits] using hw
    refine ⟨UInt8.ofNat b.toNat, ?_, trivial⟩
    unfold bval
    congr 1
    rw [UInt8.toNat_ofNat']
    omega)
  exact ⟨l, h1⟩

/-- A slice of bytes, opened. -/
theorem open_bytes {base0 : Nat} {r : Reach} {t e : TypeId} {v : Value} {d : DataW H} {ps : List MemPlace} (ht : P.underlying t = some (.slice e)) (he : P.underlying e = some (.int .u8)) (hc : P.cellsOf e = 1)
    (hval : Value.okWide P W r base0 t v) (hd : DataW.Trod enc P W 0 (fun _ => true) true t v d ps) : ∃ l : List UInt8, Row1 W v (l.map bval) := by
  obtain ⟨a, len, cap, rfl⟩ := okWide_slice ht hval
  obtain ⟨fuel, hf⟩ := hd
  exact bytes_of_trod (y := (d, ps)) ht he hc (by simpa [Value.cells] using hf)

theorem lists_of_all {w : World} : ∀ {vs : List Value}, (∀ x ∈ vs, ∃ l : List UInt8, Row1 w x (l.map bval)) → ∃ ls : List (List UInt8), vs.length = ls.length ∧ ∀ (i : Nat) (x : Value) (l : List UInt8), vs[i]? = some x → ls[i]? = some l → Row1 w x (l.map bval)
  | [], _ => ⟨[], rfl, fun i x l hx => by simp at hx⟩
  | v :: vs, h => by
    obtain ⟨l, hl⟩ := h v (List.mem_cons_self ..)
    obtain ⟨ls, h1, h2⟩ := lists_of_all (fun x hx => h x (List.mem_cons_of_mem _ hx))
    refine ⟨l :: ls, by simp [h1], fun i x k hx hk => ?_⟩
    cases i with
    | zero =>
      simp at hx hk
      subst hx; subst hk
      exact hl
    | succ i => exact h2 i x k (by simpa using hx) (by simpa using hk)

/-- A slice of slices of bytes, opened. -/
theorem open_bytes2 {base0 : Nat} {r : Reach} {t q e : TypeId} {v : Value} {d : DataW H} {ps : List MemPlace} (ht : P.underlying t = some (.slice q)) (hq : P.underlying q = some (.slice e)) (he : P.underlying e = some (.int .u8)) (hcq : P.cellsOf q = 1) (hc : P.cellsOf e = 1)
    (hval : Value.okWide P W r base0 t v) (hd : DataW.Trod enc P W 0 (fun _ => true) true t v d ps) : ∃ ls : List (List UInt8), RowB W v ls := by
  obtain ⟨vs, h1, h2⟩ := open_row1 ht hcq hval hd
  obtain ⟨ls, h3, h4⟩ := lists_of_all (w := W) (vs := vs) (fun x hx => by
    obtain ⟨n, y, h⟩ := h2 x hx
    exact bytes_of_trod hq he hc h)
  exact ⟨ls, vs, h1, h3, h4⟩

/-- An array of one-cell elements, opened. -/
theorem open_array {base0 : Nat} {r : Reach} {t e : TypeId} {len : Nat} {v : Value} {d : DataW H} {ps : List MemPlace} (ht : P.underlying t = some (.array len e)) (hc : P.cellsOf e = 1) (hct : P.cellsOf t = len)
    (hval : Value.okWide P W r base0 t v) (hd : DataW.Trod enc P W 0 (fun _ => true) true t v d ps) :
    ∃ vs : List Value, v = .agg vs.toArray ∧ vs.length = len ∧ ∀ x ∈ vs, ∃ n y, DataW.trod enc P W 0 (fun _ => true) true n e [x] = some y := by
  simp only [Value.okWide, ht] at hval
  obtain ⟨cs, rfl, hsz, _⟩ := hval
  rw [hct] at hsz
  obtain ⟨fuel, hf⟩ := hd
  obtain ⟨xs, m, _, _, hl, hxl, hx⟩ := DataW.trod_array ht hf
  obtain ⟨l⟩ := cs
  refine ⟨l, rfl, by simpa using hsz, fun x hxm => ?_⟩
  obtain ⟨i, hi, rfl⟩ := List.getElem_of_mem hxm
  have hlen : l.length = len := by simpa using hsz
  have hi' : i < len := by omega
  have := hx i hi'
  rw [hc, Nat.mul_one] at this
  refine ⟨m, xs[i]'(by omega), ?_⟩
  rw [List.getElem?_eq_getElem (by omega)] at this
  rw [← this]
  congr 1
  show [l[i]] = (l.drop i).take 1
  rw [List.drop_eq_getElem_cons hi]
  rfl

theorem open_array_ints {base0 : Nat} {r : Reach} {t e : TypeId} {len : Nat} {k : IntKind} {v : Value} {d : DataW H} {ps : List MemPlace} (ht : P.underlying t = some (.array len e)) (he : P.underlying e = some (.int k)) (hc : P.cellsOf e = 1) (hct : P.cellsOf t = len)
    (hval : Value.okWide P W r base0 t v) (hd : DataW.Trod enc P W 0 (fun _ => true) true t v d ps) :
    ∃ zs : List Int, v = .agg (zs.map (Value.int k)).toArray ∧ zs.length = len ∧ ∀ n ∈ zs, (Lit.int k n).wf = true := by
  obtain ⟨vs, rfl, hl, h2⟩ := open_array ht hc hct hval hd
  obtain ⟨l, rfl, hw⟩ := list_of_all (f := Value.int k) (p := fun n => (Lit.int k n).wf = true) (fun x hx => by
    obtain ⟨n, y, h⟩ := h2 x hx
    exact cell_int he h)
  exact ⟨l, rfl, by simpa using hl, hw⟩
end

theorem law_own : ownKnob Tryd.prog.godebug = none := by kernel_rfl
theorem law_laid : laidOutB Tryd.prog = true := by kernel_rfl

end Go.Proofs.YtcadfccijeodbaaDoor

/- Arrays of one-cell elements in memory: a block known whole is loaded and stored whole, and answered as a call's result. Nothing here speaks of a program. Each theorem names its own conditions. -/
namespace Go.Proofs.YtcadfccijeodbaaDoor
open Go.RowKit
set_option linter.unusedVariables false

section
variable {P : Program} {w w' : World}

/-- vs laid over cs from o on. -/
def laid : List Value → Nat → List Value → List Value
  | cs, _, [] => cs
  | cs, o, v :: r => laid (cs.set o v) (o + 1) r
theorem laid_length : ∀ (vs cs : List Value) (o : Nat), (laid cs o vs).length = cs.length
  | [], _, _ => rfl
  | v :: r, cs, o => by rw [laid, laid_length r]; simp
theorem laid_get : ∀ (vs cs : List Value) (o : Nat), o + vs.length ≤ cs.length → ∀ i, (laid cs o vs)[i]? = if o ≤ i ∧ i < o + vs.length then vs[i - o]? else cs[i]?
  | [], cs, o, h, i => by simp [laid]; omega
  | v :: r, cs, o, h, i => by
    rw [List.length_cons] at h
    rw [laid, laid_get r _ _ (by simp; omega)]
    by_cases h1 : i = o
    · subst h1
      rw [if_neg (by omega), if_pos (by simp), List.getElem?_set_self (by omega)]
      simp
    · by_cases h2 : o + 1 ≤ i ∧ i < o + 1 + r.length
      · rw [if_pos h2, if_pos (by rw [List.length_cons]; omega), show i - o = (i - (o + 1)) + 1 from by omega]
        simp
      · rw [if_neg h2, if_neg (by rw [List.length_cons]; omega), List.getElem?_set_ne (by omega)]
theorem laid_all (cs vs : List Value) (h : vs.length = cs.length) : laid cs 0 vs = vs := by
  apply List.ext_getElem?
  intro i
  rw [laid_get _ _ _ (by omega)]
  by_cases hi : i < vs.length
  · rw [if_pos (by omega)]
    simp
  · rw [if_neg (by omega), List.getElem?_eq_none (by omega), List.getElem?_eq_none (by omega)]

theorem Blk.setCells {c : Nat} {t : TypeId} : ∀ (vs : List Value) (cs : List Value) (o : Nat) (w : World), Blk w c cs t → Blk (w.setCells c o vs) c (laid cs o vs) t
  | [], _, _, _, h => h
  | v :: r, cs, o, w, h => Blk.setCells r (cs.set o v) (o + 1) _ (h.set o v)
theorem grownBy_setCells {c : Nat} : ∀ (vs : List Value) (o : Nat) (a b : World), a.grownBy b (some c) → a.grownBy (b.setCells c o vs) (some c)
  | [], _, _, _, h => h
  | v :: r, o, a, b, h => grownBy_setCells r (o + 1) a _ (grownBy_set h o v)

theorem Blk.there {c : Nat} {cs : List Value} {t : TypeId} (h : Blk w c cs t) (n : Nat) (hn : n ≤ cs.length) : w.there c 0 n := fun j hj => by
  rw [Nat.zero_add]
  refine ⟨?_, h.free j⟩
  rw [h.cell j, List.getElem?_eq_getElem (by omega)]
  rfl
theorem Blk.range {c : Nat} {cs : List Value} {t : TypeId} (h : Blk w c cs t) : w.rangeAt c 0 cs := fun j v hv => by
  rw [Nat.zero_add, h.cell j, hv]

/-- A whole array is loaded. -/
theorem wpList_load_blk {ops : Array Oper} {rest : List Oper} {o : Oper} {a : Act} {Q : Exit → Act → World → Prop} (hgd : o.guard = none) (ty : TypeId) (x : Operand) (ho : o.op = .load ty x)
    (c : Nat) (hx : a.eval x = .pointer (some ⟨c, 0, none⟩)) (t : TypeId) (cs : List Value) (n : Nat) (e : TypeId) (hb : Blk w c cs t)
    (hu : P.underlying ty = some (.array n e)) (hi : (P.info? ty).map (·.size) = some cs.length)
    (h : wpList P ops Q rest (a.put o.dst (.agg cs.toArray)) w) : wpList P ops Q (o :: rest) a w :=
  wpList_load_mid hgd ty x ho c 0 hx cs _ hb.range hu rfl hi h

/-- A whole array is stored. -/
theorem wpList_store_blk {ops : Array Oper} {rest : List Oper} {o : Oper} {a : Act} {Q : Exit → Act → World → Prop} (hgd : o.guard = none) (ty : TypeId) (x y : Operand) (ho : o.op = .store ty x y)
    (c : Nat) (vs : List Value) (hx : a.eval x = .pointer (some ⟨c, 0, none⟩)) (hy : a.eval y = .agg vs.toArray)
    (t : TypeId) (cs : List Value) (hb : Blk w c cs t) (hl : vs.length = cs.length) (hi : (P.info? ty).map (·.size) = some vs.length) (h1 : ∀ v ∈ vs, v.oneCell' = true)
    (h : ∀ w', Blk w' c vs t → w.grownBy w' (some c) → wpList P ops Q rest (a.put o.dst undef) w') : wpList P ops Q (o :: rest) a w :=
  wpList_store_mid hgd ty x y ho c 0 vs.toArray hx hy (by simpa using hb.there vs.length (by omega)) (by simpa using hi) (all_oneCell_toArray h1)
    (h _ (by simpa [laid_all cs vs hl] using Blk.setCells vs cs 0 w hb) (grownBy_setCells _ 0 w w (grownBy_refl w _)))

/-- The same, as an operation. -/
theorem wp_store_blk {o : Oper} {a : Act} {K : Act → World → Prop} {Q : Exit → Act → World → Prop} (ty : TypeId) (x y : Operand) (ho : o.op = .store ty x y)
    (c : Nat) (vs : List Value) (hx : a.eval x = .pointer (some ⟨c, 0, none⟩)) (hy : a.eval y = .agg vs.toArray)
    (t : TypeId) (cs : List Value) (hb : Blk w c cs t) (hl : vs.length = cs.length) (hi : (P.info? ty).map (·.size) = some vs.length) (h1 : ∀ v ∈ vs, v.oneCell' = true)
    (h : ∀ w', Blk w' c vs t → w.grownBy w' (some c) → K (a.put o.dst undef) w') : o.wp P a w K Q :=
  wp_store_mid ty x y ho c 0 vs.toArray hx hy (by simpa using hb.there vs.length (by omega)) (by simpa using hi) (all_oneCell_toArray h1)
    (h _ (by simpa [laid_all cs vs hl] using Blk.setCells vs cs 0 w hb) (grownBy_setCells _ 0 w w (grownBy_refl w _)))

theorem Blk.below {c : Nat} {cs : List Value} {t : TypeId} (h : Blk w c cs t) (hb : Below w.heap.size w w') : Blk w' c cs t := h.same (hb.block _ h.lt)

/-- The result that lies in a cell: the whole array. -/
theorem result_blk {fn : Func} {p : Tmp} {ty : TypeId} (h : fn.results = #[.cell p ty]) (tmps : Array Value) (c : Nat) (t : TypeId) (cs : List Value) (n : Nat) (e : TypeId)
    (hp : tmps.getD p undef = .pointer (some ⟨c, 0, none⟩)) (hb : Blk w c cs t) (hu : P.underlying ty = some (.array n e)) (hi : (P.info? ty).map (·.size) = some cs.length) :
    (results fn tmps).run P w = .ok (.agg cs.toArray) w :=
  results_cell_row h tmps w c t cs.toArray (0, 0) _ hp hb hu rfl (by simpa using hi)

/-- A block, where another one is written. -/
theorem Blk.far {c : Nat} {cs : List Value} {t : TypeId} {a : Addr} (h : Blk w c cs t) (ha : a.block ≠ c) (v : Value) : Blk (w.setCell a v) c cs t :=
  h.same (heap_setCell_other w a c v (fun e => ha e.symm))
theorem Blk.alloc {c : Nat} {cs : List Value} {t : TypeId} (h : Blk w c cs t) (o : Obj) : Blk (w.alloc o) c cs t := h.same (heap_alloc_old w o h.lt)

/-- Blocks that a call lays at its head. -/
theorem boxes2 (w : World) (a b : List Value) (s t : TypeId) : Blk ((w.alloc (.cells a.toArray s)).alloc (.cells b.toArray t)) w.heap.size a s ∧ Blk ((w.alloc (.cells a.toArray s)).alloc (.cells b.toArray t)) (w.heap.size + 1) b t ∧
    Below w.heap.size w ((w.alloc (.cells a.toArray s)).alloc (.cells b.toArray t)) := by
  refine ⟨(Blk.made w a s).alloc _, ?_, ((Below.refl _ _).alloc (Nat.le_refl _) _).alloc (by simp) _⟩
  have := Blk.made (w.alloc (.cells a.toArray s)) b t
  simpa using this
theorem boxes3 (w : World) (a b c : List Value) (s t u : TypeId) : Blk (((w.alloc (.cells a.toArray s)).alloc (.cells b.toArray t)).alloc (.cells c.toArray u)) w.heap.size a s ∧ Blk (((w.alloc (.cells a.toArray s)).alloc (.cells b.toArray t)).alloc (.cells c.toArray u)) (w.heap.size + 1) b t ∧
    Blk (((w.alloc (.cells a.toArray s)).alloc (.cells b.toArray t)).alloc (.cells c.toArray u)) (w.heap.size + 1 + 1) c u ∧ Below w.heap.size w (((w.alloc (.cells a.toArray s)).alloc (.cells b.toArray t)).alloc (.cells c.toArray u)) := by
  obtain ⟨h1, h2, h3⟩ := boxes2 w a b s t
  refine ⟨h1.alloc _, h2.alloc _, ?_, h3.alloc (by simp; omega) _⟩
  have := Blk.made ((w.alloc (.cells a.toArray s)).alloc (.cells b.toArray t)) c u
  simpa using this
theorem boxes4 (w : World) (a b c d : List Value) (s t u v : TypeId) : Blk ((((w.alloc (.cells a.toArray s)).alloc (.cells b.toArray t)).alloc (.cells c.toArray u)).alloc (.cells d.toArray v)) w.heap.size a s ∧ Blk ((((w.alloc (.cells a.toArray s)).alloc (.cells b.toArray t)).alloc (.cells c.toArray u)).alloc (.cells d.toArray v)) (w.heap.size + 1) b t ∧
    Blk ((((w.alloc (.cells a.toArray s)).alloc (.cells b.toArray t)).alloc (.cells c.toArray u)).alloc (.cells d.toArray v)) (w.heap.size + 1 + 1) c u ∧ Blk ((((w.alloc (.cells a.toArray s)).alloc (.cells b.toArray t)).alloc (.cells c.toArray u)).alloc (.cells d.toArray v)) (w.heap.size + 1 + 1 + 1) d v ∧ Below w.heap.size w ((((w.alloc (.cells a.toArray s)).alloc (.cells b.toArray t)).alloc (.cells c.toArray u)).alloc (.cells d.toArray v)) := by
  obtain ⟨h1, h2, h3, h4⟩ := boxes3 w a b c s t u
  refine ⟨h1.alloc _, h2.alloc _, h3.alloc _, ?_, h4.alloc (by simp; omega) _⟩
  have := Blk.made (((w.alloc (.cells a.toArray s)).alloc (.cells b.toArray t)).alloc (.cells c.toArray u)) d v
  simpa using this

/-- The cells of numbers. -/
def ints (k : IntKind) (zs : List Int) : List Value := zs.map (.int k)
theorem ints_one (k : IntKind) (zs : List Int) : ∀ v ∈ ints k zs, v.oneCell' = true := by
  intro u hu
  obtain ⟨z, _, rfl⟩ := List.mem_map.1 hu
  rfl
theorem ints_set (k : IntKind) (zs : List Int) (i : Nat) (z : Int) : (ints k zs).set i (.int k z) = ints k (zs.set i z) := by
  unfold ints
  rw [List.map_set]
theorem ints_get {k : IntKind} {zs : List Int} {i : Nat} (h : i < zs.length) : (ints k zs)[i]? = some (.int k (zs.getD i 0)) := by
  simp [ints, List.getD, h]
theorem ints_length (k : IntKind) (zs : List Int) : (ints k zs).length = zs.length := by simp [ints]
end

end Go.Proofs.YtcadfccijeodbaaDoor

/- Laws whose rows list package-level variables: what a listed array of whole numbers reads as, and the lift of a law that asks for it. No condition of its own. -/
namespace Go.Proofs.YtcadfccijeodbaaDoor
open Go.ChangeShapes Go.WideShapes Go.ChangeAt Go.WideMaps Go.WideElems Go.RowKit
set_option linter.unusedVariables false

theorem laid_in {P : Program} {w : World} : ∀ {laid : List (String × DataW Unit)} {ps : List MemPlace} {n : String} {d : DataW Unit}, DataW.LaidVars P w laid ps → (n, d) ∈ laid →
    ∃ g t cs fuel p, P.globalNamed n = some g ∧ (P.globals[g]?).map (·.type) = some t ∧ w.var? P n = some cs ∧ DataW.trod (fun _ => ()) P w 0 (fun _ => true) false fuel t cs.toList = some (d, p)
  | [], _, _, _, _, hm => by cases hm
  | (n0, d0) :: r, ps, n, d, h, hm => by
    obtain ⟨g, t, cs, fuel, p, q, h1, h2, h3, h4, h5, _⟩ := h
    rcases List.mem_cons.1 hm with e | hm
    · cases e
      exact ⟨g, t, cs, fuel, p, h1, h2, h3, h4⟩
    · exact laid_in h5 hm

/-- A listed array of whole numbers lies as it is listed. -/
theorem range_of_laid {P : Program} {W : World} {L : List (String × DataW Unit)} {n : String} {g len : Nat} {t e : TypeId} {k : IntKind} {zs : List Int} {d : DataW Unit}
    (hplain : (L.all fun x => x.2.handleName?.isNone) = true) (h : laidMetH P L W) (hm : (n, d) ∈ L) (hd : d = .agg (zs.map fun z => .lit (.int k z)))
    (hg : P.globalNamed n = some g) (ht : (P.globals[g]?).map (·.type) = some t) (hu : P.underlying t = some (.array len e)) (he : P.underlying e = some (.int k)) (hc : P.cellsOf e = 1) (hz : zs.length = len) : W.rangeAt g 0 (ints k zs) := by
  rw [MakeChecks.laidMetH_plain _ _ _ hplain] at h
  obtain ⟨ps, hl, _, _⟩ := h
  obtain ⟨g0, t0, cs0, f0, p0, hg0, ht0, hv0, hd0⟩ := laid_in hl hm
  obtain rfl := Option.some.inj (hg.symm.trans hg0)
  obtain rfl := Option.some.inj (ht.symm.trans ht0)
  obtain ⟨xs, m, rfl, hx1, hlen, hn, hel⟩ := DataW.trod_array hu hd0
  rw [hd] at hx1
  simp only [Prod.mk.injEq, DataW.agg.injEq] at hx1
  intro j v hj
  have hjl : j < len := by
    apply Classical.byContradiction
    intro hn'
    rw [List.getElem?_eq_none (by rw [ints_length]; omega)] at hj
    cases hj
  have h0 := hel j hjl
  rw [hc, Nat.mul_one] at h0
  obtain ⟨x0, hx0⟩ : ∃ x0, xs[j]? = some x0 := ⟨xs[j], List.getElem?_eq_getElem (by omega)⟩
  rw [hx0] at h0
  obtain ⟨q, e1, e2, _⟩ := DataW.trod_int he h0
  have e3 : (zs.map fun z => (DataW.lit (.int k z) : DataW Unit))[j]? = some x0.1 := by rw [hx1.1, List.getElem?_map, hx0]; rfl
  rw [e2, List.getElem?_map] at e3
  have e4 : zs[j]? = some q := by
    cases hr : zs[j]? with
    | none => rw [hr] at e3; cases e3
    | some z => rw [hr] at e3; simpa using e3
  have e5 : v = .int k q := by
    unfold ints at hj
    rw [List.getElem?_map, e4] at hj
    simpa using hj.symm
  have e6 : cs0.toList[j]? = some (.int k q) := by
    have := congrArg (fun l : List Value => l[0]?) e1
    simpa [List.getElem?_take, List.getElem?_drop] using this
  have := World.var?_cell hg0 hv0 j
  rw [Nat.zero_add, this, e5]
  simpa using e6

/-- What a law's walk owes that asks for variables as they are listed. -/
def LawWalkG (G : World → Prop) {H : Type} (enc : TypeId × Value → H) (P : Program) (f : FuncId) (ts : List TypeId) : Prop :=
  ∀ (W : World) (base : Nat) (args : Array Value) (ds : List (DataW H)) (ps : List MemPlace),
    (∀ (j : Nat) (t : TypeId) (v : Value), ts[j]? = some t → args[j]? = some v → Value.okWide P W .any base t v) →
    DataW.TrodAll enc P W 0 (fun _ => true) true ts args.toList ds ps → (∀ x ∈ ps, x.block < W.heap.size) → W.noneFrozen ps → G W →
    Calls P f args W fun e w' => e = .returned (.bool true) ∧ Below W.heap.size W w'

theorem law_lift_tied {G : World → Prop} {H : Type} {enc : TypeId × Value → H} {C : Checked} {os : Os} {f : FuncId} {fn : Func} {s : ChangeSpec} {tb : TypeId} (L : List (String × DataW Unit))
    (own : ownKnob C.prog.godebug = none) (laid : laidOutB C.prog = true) (started : os.Started)
    (hinit : C.prog.inits.idxOf? f = none) (hf : C.prog.funcs[f]? = some fn) (hvars : s.vars = [])
    (hread : (fn.params.toList.all fun t => C.prog.readableRec t && decide (t < C.prog.types.size)) = true)
    (hres : fn.resultTypes = #[tb]) (hb : C.prog.underlying tb = some .bool)
    (hs : ∀ ds : List (DataW H), ds.length = fn.params.toList.length → (s.fn H ds).results = [.lit (.bool true)] ∧ (s.fn H ds).args = ds ∧ (s.fn H ds).vars = [])
    (hwit : ∃ (w : World) (tape : Tape) (i : Input), w.os = os ∧ (w.forCall tape i).Shaped C.prog ∧ i.vars = [] ∧ Input.okWide C.prog (w.forCall tape i) .any w.heap.size f i ∧
      ((s.pre enc C.prog fn [] false (w.forCall tape i).memory i.args ∧ laidMetH C.prog L (w.forCall tape i).memory) ∧ sizedMet enc C.prog fn (OpenSpec.ofChange s) false (w.forCall tape i).memory i.args) ∧ ({} : Assume).holds C.prog (lone (Frame.enter C.prog f i.args .normal) [] (w.forCall tape i)))
    (hglob : ∀ W, laidMetH C.prog L W → G W) (walk : LawWalkG G enc C.prog f fn.params.toList) :
    ReturnsInHanded {} C os f .any (fun w args => (s.pre enc C.prog fn [] false w args ∧ laidMetH C.prog L w) ∧ sizedMet enc C.prog fn (OpenSpec.ofChange s) false w args) (s.post enc C.prog fn false true false false) := by
  refine returnsInHanded_of_change_and (C := C) (X := fun w _ => laidMetH C.prog L w) (fun _ _ _ hh h => h.of_heap hh) own started hinit hf hwit ?_
  intro W base args ds gs before hval hW _ _ hL _
  have hW' := hW
  have hlt := hW.lt
  obtain ⟨p, q, hA, hV, rfl, hfz, hnd⟩ := hW
  rw [hvars] at hV
  obtain ⟨rfl, rfl⟩ := trodVars_none hV
  rw [List.append_nil] at hlt hfz
  have hlen := trodAll_len hA
  obtain ⟨e1, e2, e3⟩ := hs ds hlen
  refine (walk W base args ds p (fun j t v hj hv => hval j t v (by rw [← Array.getElem?_toList]; exact hj) hv) hA hlt hfz (hglob W hL)).mono ?_
  rintro e w' ⟨rfl, hbel⟩
  refine ⟨_, rfl, ds, [], p ++ [], [], p, [], hW', ?_, ?_, ?_, ?_, ?_⟩
  · rw [List.append_nil, e1, hres]
    exact trodAll_mk1 (shut_bool hb _)
  · rw [List.append_nil, e2]
    exact trodAll_stays laid hread hA (fun x hx => hbel.same (hlt x hx)) (fun x hx => by simpa using hlt x hx)
  · rw [hvars, List.append_nil, e3]
    rfl
  · exact hbel.frame _
  · intro h
    cases h

end Go.Proofs.YtcadfccijeodbaaDoor

/- Arguments that are numbers of 32 bytes, bytes, bools, opened. Each theorem names its own conditions. -/
namespace Go.Proofs.YtcadfccijeodbaaDoor
open Go.ChangeShapes Go.WideShapes Go.ChangeAt Go.RowKit
set_option linter.unusedVariables false

section
variable {H : Type} {enc : TypeId × Value → H} {P : Program} {W : World}

theorem byte_of {b : Int} (h : (Lit.int .u8 b).wf = true) : ∃ n : UInt8, b = (n.toNat : Int) := by
  have hb : 0 ≤ b ∧ b ≤ 255 := by simpa [Lit.wf, IntKind.min, IntKind.max, IntKind.signed, IntKind.bits] using h
  refine ⟨UInt8.ofNat b.toNat, ?_⟩
  rw [UInt8.toNat_ofNat']
  omega
theorem bytes_of_ints : ∀ {zs : List Int}, (∀ n ∈ zs, (Lit.int .u8 n).wf = true) → ∃ l : List UInt8, zs.map (Value.int .u8) = l.map bval
  | [], _ => ⟨[], rfl⟩
  | z :: r, h => by
    obtain ⟨n, hn⟩ := byte_of (h z (List.mem_cons_self ..))
    obtain ⟨l, hl⟩ := bytes_of_ints (zs := r) (fun x hx => h x (List.mem_cons_of_mem _ hx))
    exact ⟨n :: l, by simp only [List.map_cons, hl, hn]; rfl⟩
/-- A number of 32 bytes. -/
theorem open_num {base0 : Nat} {r : Reach} {t e : TypeId} {v : Value} {d : DataW H} {ps : List MemPlace} (ht : P.underlying t = some (.array 32 e)) (he : P.underlying e = some (.int .u8)) (hc : P.cellsOf e = 1) (hct : P.cellsOf t = 32)
    (hval : Value.okWide P W r base0 t v) (hd : DataW.Trod enc P W 0 (fun _ => true) true t v d ps) : ∃ l : List UInt8, v = .agg (l.map bval).toArray ∧ l.length = 32 := by
  obtain ⟨zs, rfl, hl, hw⟩ := open_array_ints ht he hc hct hval hd
  obtain ⟨l, e⟩ := bytes_of_ints hw
  refine ⟨l, by rw [e], ?_⟩
  have := congrArg List.length e
  simpa [hl] using this.symm
/-- Bytes in an array of whatever length. -/
theorem open_numN {base0 : Nat} {r : Reach} {n : Nat} {t e : TypeId} {v : Value} {d : DataW H} {ps : List MemPlace} (ht : P.underlying t = some (.array n e)) (he : P.underlying e = some (.int .u8)) (hc : P.cellsOf e = 1) (hct : P.cellsOf t = n)
    (hval : Value.okWide P W r base0 t v) (hd : DataW.Trod enc P W 0 (fun _ => true) true t v d ps) : ∃ l : List UInt8, v = .agg (l.map bval).toArray ∧ l.length = n := by
  obtain ⟨zs, rfl, hl, hw⟩ := open_array_ints ht he hc hct hval hd
  obtain ⟨l, e⟩ := bytes_of_ints hw
  refine ⟨l, by rw [e], ?_⟩
  have := congrArg List.length e
  simpa [hl] using this.symm
theorem i64_both {n : Int} (h : (Lit.int .i64 n).wf = true) : -9223372036854775808 ≤ n ∧ n ≤ 9223372036854775807 := by simpa [Lit.wf, IntKind.min, IntKind.max, IntKind.signed, IntKind.bits] using h
theorem i64_lo {n : Int} (h : (Lit.int .i64 n).wf = true) : -9223372036854775808 ≤ n := (i64_both h).1
theorem i64_hi {n : Int} (h : (Lit.int .i64 n).wf = true) : n ≤ 9223372036854775807 := (i64_both h).2
/-- A byte. -/
theorem open_byte {base0 : Nat} {r : Reach} {t : TypeId} {v : Value} {d : DataW H} {ps : List MemPlace} (ht : P.underlying t = some (.int .u8))
    (hval : Value.okWide P W r base0 t v) (hd : DataW.Trod enc P W 0 (fun _ => true) true t v d ps) : ∃ n : UInt8, v = .int .u8 (n.toNat : Int) := by
  obtain ⟨z, rfl, _, _, hw⟩ := open_int ht hval hd
  obtain ⟨n, rfl⟩ := byte_of hw
  exact ⟨n, rfl⟩
end

end Go.Proofs.YtcadfccijeodbaaDoor

/- Regions that draw their order, in which values are worked out by reads and by calls that leave all old memory alone, and in which variables are made and written behind: one walk of the text's order serves every order for the first part. Nothing here speaks of a program. Each theorem names its own conditions. -/
namespace Go.Proofs.YtcadfccijeodbaaDoor
open Go.RowKit
set_option linter.unusedVariables false

/-- w' is w with more behind it: no block of w has turned. -/
def Ext (w w' : World) : Prop := Below w.heap.size w w'
theorem Ext.refl (w : World) : Ext w w := Below.refl _ w
theorem Ext.trans {a b c : World} (h : Ext a b) (g : Ext b c) : Ext a c := Below.trans h (Below.mono g h.size)
theorem Ext.drew (w : World) : Ext w w.drew := (Below.refl _ w).drew
theorem Ext.alloc (w : World) (o : Obj) : Ext w (w.alloc o) := (Below.refl _ w).alloc (Nat.le_refl _) o

section
variable {P : Program} {ops : Array Oper} {Q : Exit → Act → World → Prop} {md : Region.Mode} {t : Nat}

/-- The first t operations have come up. -/
def doneB (t : Nat) (listed : Array Bool) : Bool := (List.range t).all fun k => listed.getD k true

/-- Whatever order is picked from here on, in whatever longer world; as long as one of the first t operations is owed, each one leaves old memory alone. -/
def wpAnyB (P : Program) (md : Region.Mode) (ops : Array Oper) (Q : Exit → Act → World → Prop) (t : Nat) : Nat → Array Bool → Act → World → Prop
  | 0, listed, a, w => ∀ w', Ext w w' → wpAny P md ops Q 0 listed a w'
  | fuel + 1, listed, a, w =>
    (doneB t listed = true → ∀ w', Ext w w' → wpAny P md ops Q (fuel + 1) listed a w') ∧
    (doneB t listed = false → ∀ w', Ext w w' → Region.ready md ops listed ≠ [] ∧
      ∀ i ∈ Region.ready md ops listed, wpOp P ops Q i (fun a' w'' => Ext w' w'' ∧ wpAnyB P md ops Q t fuel (listed.setIfInBounds i true) a' w'') a w')

theorem wpAnyB_up : ∀ {fuel : Nat} {listed : Array Bool} {a : Act} {w w' : World}, Ext w w' → wpAnyB P md ops Q t fuel listed a w → wpAnyB P md ops Q t fuel listed a w'
  | 0, _, _, _, _, hw, h => fun w2 h2 => h w2 (hw.trans h2)
  | _ + 1, _, _, _, _, hw, h => ⟨fun hd w2 h2 => h.1 hd w2 (hw.trans h2), fun hd w2 h2 => h.2 hd w2 (hw.trans h2)⟩

theorem wpAny_of_B : ∀ (fuel : Nat) {listed : Array Bool} {a : Act} {w : World}, wpAnyB P md ops Q t fuel listed a w → wpAny P md ops Q fuel listed a w
  | 0, _, _, w, h => h w (Ext.refl w)
  | fuel + 1, listed, _, w, h => by
    cases hd : doneB t listed with
    | true => exact h.1 hd w (Ext.refl w)
    | false =>
      obtain ⟨h1, h2⟩ := h.2 hd w (Ext.refl w)
      exact ⟨fun h0 => absurd h0 h1, fun i hi => wpOp_mono (fun a' w' h' => wpAny_of_B fuel h'.2) (h2 i hi)⟩

/-- In this state, in every world of the class, the operation leaves v in its temporary, and old memory alone. -/
def YieldsB (P : Program) (ops : Array Oper) (C : World → Prop) (o : Oper) (v : Value) (a : Act) : Prop :=
  (Region.wanted o (yielded ops a.tmps) = true ∧ ∀ w, C w → o.quietAt P a (Ext w) w v) ∨ (Region.wanted o (yielded ops a.tmps) = false ∧ v = undef)

variable {C : World → Prop}

theorem YieldsB.of_same {o : Oper} {v : Value} {a a' : Act} (hy : YieldsB P ops C o v a) (he : execOp a'.eval o = execOp a.eval o)
    (hw : Region.wanted o (yielded ops a'.tmps) = Region.wanted o (yielded ops a.tmps)) : YieldsB P ops C o v a' := by
  rcases hy with ⟨h1, h2⟩ | ⟨h1, h2⟩
  · exact Or.inl ⟨hw.trans h1, fun w hc => by have := h2 w hc; unfold Oper.quietAt at *; rwa [he]⟩
  · exact Or.inr ⟨hw.trans h1, h2⟩

theorem YieldsB.wpOp {i : Nat} {o : Oper} {v : Value} {a : Act} (hi : ops[i]? = some o) (hy : YieldsB P ops C o v a) {K : Act → World → Prop} {w : World} (hC : C w)
    (h : ∀ w', Ext w w' → K (a.put o.dst v) w') : wpOp P ops Q i K a w := by
  unfold Go.wpOp
  simp only [hi]
  rcases hy with ⟨hw, hv⟩ | ⟨hw, rfl⟩
  · rw [if_pos hw]
    left
    have h3 := hv w hC
    unfold Oper.quietAt at h3
    unfold Oper.wp
    generalize (execOp a.eval o).run P w = r at *
    cases r with
    | halt x w' => exact h3.elim
    | ok n w' =>
      cases n <;> simp only [Oper.quietUpon] at h3 <;> simp only [Oper.upon]
      case value u =>
        obtain ⟨e1, e2⟩ := h3
        rw [e1, e2]
        exact h _ (Ext.refl _)
      case skip =>
        obtain ⟨e1, e2⟩ := h3
        rw [e1, ← e2]
        exact h _ (Ext.refl _)
      case enter f args =>
        obtain ⟨e1, hc⟩ := h3
        rw [e1]
        exact hc.mono fun e w'' ⟨he, hw''⟩ => by subst he; exact h _ hw''
  · rw [if_neg (by simp [hw])]
    exact h _ (Ext.refl _)

/-- What an operation's own put does not touch is kept over it. -/
theorem wpOp_keep {j : Nat} {oj : Oper} {Y : Act → Prop} {K : Act → World → Prop} {a : Act} {w : World} (hj : ops[j]? = some oj) (hput : ∀ u, Y (a.put oj.dst u))
    (hdef : ∀ d, Y ({ a with defers := d :: a.defers }.put oj.dst undef)) (h : wpOp P ops Q j K a w) : wpOp P ops Q j (fun a' w' => Y a' ∧ K a' w') a w := by
  unfold wpOp at *
  simp only [hj] at *
  split
  · rename_i hw
    simp only [hw, if_true] at h
    rcases h with h | h
    · left
      unfold Oper.wp at *
      generalize (execOp a.eval oj).run P w = r at *
      cases r with
      | halt x w' => cases x <;> simp only [Oper.upon] at h ⊢ <;> exact h
      | ok n w' =>
        cases n <;> simp only [Oper.upon] at h ⊢
        case value u => exact ⟨hput u, h⟩
        case skip => exact ⟨hput _, h⟩
        case defer d => exact ⟨hdef d, h⟩
        case enter f args =>
          refine Calls.mono h fun e w'' he => ?_
          cases e with
          | returned u => exact ⟨hput u, he⟩
          | panicked c => exact he
          | outgrown => exact he
        case row r args2 => exact Rows.mono h fun u w'' he => ⟨hput u, he⟩
    · exact Or.inr h
  · rename_i hw
    simp only [hw] at h
    exact ⟨hput _, h⟩

/-- One operation that leaves old memory alone may be taken first. -/
theorem wpAnyB_first {i : Nat} {oi : Oper} {v : Value} (hi : ops[i]? = some oi) (hit : i < t) (hsel : ∀ (j : Nat) (o : Oper) cs b, ops[j]? = some o → o.op ≠ .select cs b)
    (hQ : ∀ d v c a w, Q (.panic c) (Act.put a d v) w → Q (.panic c) a w) (cl : Array Bool) (hsz : cl.size = ops.size) (hcl : ∀ j ∈ Region.ready md ops cl, j = i) (htail : ∀ k, t ≤ k → cl.getD k false = false) :
    ∀ (fuel : Nat) (listed : Array Bool) (a : Act) (w : World),
      (∀ j oj, ops[j]? = some oj → j ≠ i → listed.getD j true = false → (∀ e ∈ oj.after, Region.binds md e = true → e.on ≠ i) → oi.apart ops oj = true) →
      i ∈ Region.ready md ops listed → (∀ k, listed.getD k false = true → cl.getD k false = true) → YieldsB P ops C oi v a → (∀ w', Ext w w' → C w') →
      wpAnyB P md ops Q t fuel (listed.setIfInBounds i true) (a.put oi.dst v) w → wpAnyB P md ops Q t (fuel + 1) listed a w := by
  intro fuel
  induction fuel with
  | zero =>
    intro listed a w hfree hr hsub hy hC H
    have hun := (mem_ready.1 hr).1
    have hnd : doneB t listed = false := by
      unfold doneB
      rw [List.all_eq_false]
      exact ⟨i, List.mem_range.2 hit, by rw [hun]; simp⟩
    refine ⟨fun h => (by rw [hnd] at h; cases h), fun _ w' hw' => ⟨List.ne_nil_of_mem hr, fun j hj => ?_⟩⟩
    by_cases hji : j = i
    · subst hji
      exact hy.wpOp hi (hC w' hw') (fun w'' h'' => ⟨h'', wpAnyB_up (hw'.trans h'') H⟩)
    · have h0 := (H w' hw').1
      have := ready_mono hj hji
      rw [h0] at this
      cases this
  | succ fuel ih =>
    intro listed a w hfree hr hsub hy hC H
    have hun := (mem_ready.1 hr).1
    have hnd : doneB t listed = false := by
      unfold doneB
      rw [List.all_eq_false]
      exact ⟨i, List.mem_range.2 hit, by rw [hun]; simp⟩
    refine ⟨fun h => (by rw [hnd] at h; cases h), fun _ w' hw' => ⟨List.ne_nil_of_mem hr, fun j hj => ?_⟩⟩
    by_cases hji : j = i
    · subst hji
      exact hy.wpOp hi (hC w' hw') (fun w'' h'' => ⟨h'', wpAnyB_up (hw'.trans h'') H⟩)
    · obtain ⟨hjun, oj, hoj, hall⟩ := mem_ready.1 hj
      have hjlt : j < ops.size := (Array.getElem?_eq_some_iff.1 hoj).1
      have hjcl : cl.getD j false = true := by
        cases hc : cl.getD j false with
        | true => rfl
        | false =>
          refine absurd (hcl j (mem_ready.2 ⟨?_, oj, hoj, fun e he hb => hsub _ (hall e he hb)⟩)) hji
          have hjs : j < cl.size := by omega
          simpa [Array.getD, hjs] using hc
      have hjt : j < t := by
        rcases Nat.lt_or_ge j t with h | h
        · exact h
        · rw [htail j h] at hjcl; cases hjcl
      cases hd : doneB t (listed.setIfInBounds i true) with
      | true =>
        unfold doneB at hd
        have := (List.all_eq_true.1 hd) j (List.mem_range.2 hjt)
        rw [getD_set_ne true (Ne.symm hji), hjun] at this
        cases this
      | false =>
        have h1 := ((H.2 hd) w' hw').2 j (ready_mono hj hji)
        have hnot : ∀ e ∈ oj.after, Region.binds md e = true → e.on ≠ i := fun e he hb heq => by
          have h2 := hall e he hb
          rw [heq] at h2
          rcases Nat.lt_or_ge i listed.size with h' | h'
          · simp [h'] at hun h2; rw [hun] at h2; cases h2
          · simp [Array.getElem?_eq_none h'] at h2
        have hap := hfree j oj hoj hji hjun hnot
        obtain ⟨a1, a2, a3⟩ := Oper.apart_spec hap
        have hyf : YieldsIf P ops (fun _ => False) oi v a := hy.imp (fun h => ⟨h.1, fun _ h => h.elim⟩) id
        have h2 := wpOp_putIf hoj hap (fun cs b => hsel i oi cs b hi) (fun cs b => hsel j oj cs b hoj) (fun c a w h => hQ _ _ c a w h) hyf h1
        have keep : ∀ u, YieldsB P ops C oi v (a.put oj.dst u) := fun u => hy.of_same (execOp_put oi (fun cs b => hsel i oi cs b hi) a oj.dst u a3) (wanted_put oi a oj.dst u a3)
        have keepD : ∀ d, YieldsB P ops C oi v ({ a with defers := d :: a.defers }.put oj.dst undef) := fun d =>
          (hy.of_same (a' := { a with defers := d :: a.defers }) rfl rfl).of_same (execOp_put oi (fun cs b => hsel i oi cs b hi) _ oj.dst undef a3) (wanted_put oi _ oj.dst undef a3)
        have h3 := wpOp_keep (Y := YieldsB P ops C oi v) hoj keep keepD h2
        refine wpOp_mono (fun a' w'' h4 => ⟨h4.2.2.1, ih (listed.setIfInBounds j true) a' w'' ?_ (ready_mono hr (Ne.symm hji)) ?_ h4.1 (fun w3 h5 => hC w3 ((hw'.trans h4.2.2.1).trans h5)) ?_⟩) h3
        · intro k ok hk hki hkun hkno
          refine hfree k ok hk hki ?_ hkno
          by_cases hjk : j = k
          · subst hjk; exact hjun
          · rwa [getD_set_ne true hjk] at hkun
        · intro k hk
          by_cases hjk : j = k
          · subst hjk; exact hjcl
          · rw [getD_set_ne false hjk] at hk
            exact hsub k hk
        · rw [Array.setIfInBounds_comm _ _ hji]
          exact h4.2.2.2

/-- All that may come up while number i is owed, from what is listed on, in one pass. -/
def closeB (md : Region.Mode) (ops : Array Oper) (i : Nat) (listed : Array Bool) : Array Bool :=
  (List.range ops.size).foldl (fun c j => if j == i || c.getD j true then c else if ((ops[j]?).map (·.after.all fun e => !Region.binds md e || c.getD e.on false)).getD false then c.setIfInBounds j true else c) listed

/-- What is asked of a region, for taking its operations k, k + 1, .. first. -/
def detB (md : Region.Mode) (ops : Array Oper) (t : Nat) : Nat → Nat → Array Bool → Bool
  | 0, _, _ => true
  | d + 1, k, listed =>
    let cl := closeB md ops k listed
    (Region.ready md ops listed).contains k && Region.free md ops listed k && Nat.blt k t && (cl.size == ops.size) && (Region.ready md ops cl).all (· == k) && (List.range cl.size).all (fun j => Nat.blt j t || !cl.getD j false) && (List.range listed.size).all (fun j => !listed.getD j false || cl.getD j false) &&
      detB md ops t d (k + 1) (listed.setIfInBounds k true)

/-- The first part, in the text's order. -/
def wpDet (P : Program) (ops : Array Oper) (C : World → Prop) (Q : Act → Prop) : List Oper → Act → Prop
  | [], a => Q a
  | o :: rest, a => (Region.wanted o (yielded ops a.tmps) = true → ∃ v, (∀ w, C w → o.quietAt P a (Ext w) w v) ∧ wpDet P ops C Q rest (a.put o.dst v)) ∧ (Region.wanted o (yielded ops a.tmps) = false → wpDet P ops C Q rest (a.put o.dst undef))

/-- What is listed behind it. -/
def listN : Nat → Nat → Array Bool → Array Bool
  | 0, _, l => l
  | d + 1, k, l => listN d (k + 1) (l.setIfInBounds k true)

theorem wpAnyB_lex (hs : Region.noSelect ops = true) (hQ : ∀ d v c a w, Q (.panic c) (Act.put a d v) w → Q (.panic c) a w) (m : Nat) : ∀ (l : List Oper) (k : Nat) (listed : Array Bool) (a : Act) (w : World), (∀ j, j < l.length → l[j]? = ops[k + j]?) →
    detB md ops t l.length k listed = true → (∀ w', Ext w w' → C w') → wpDet P ops C (fun a' => wpAnyB P md ops Q t m (listN l.length k listed) a' w) l a → wpAnyB P md ops Q t (l.length + m) listed a w
  | [], _, _, _, _, _, _, _, h => by simpa [wpDet, listN] using h
  | o :: l, k, listed, a, w, hl, hB, hC, h => by
    have h0 : ops[k]? = some o := by simpa using (hl 0 (by simp)).symm
    simp only [List.length_cons, detB, Bool.and_eq_true] at hB
    obtain ⟨⟨⟨⟨⟨⟨⟨b1, b2⟩, b3⟩, b4⟩, b5⟩, b6⟩, b7⟩, b8⟩ := hB
    have hy : ∃ v, YieldsB P ops C o v a ∧ wpDet P ops C (fun a' => wpAnyB P md ops Q t m (listN l.length (k + 1) (listed.setIfInBounds k true)) a' w) l (a.put o.dst v) := by
      cases hw : Region.wanted o (yielded ops a.tmps) with
      | true =>
        obtain ⟨v, h1, h2⟩ := h.1 hw
        exact ⟨v, Or.inl ⟨hw, h1⟩, h2⟩
      | false => exact ⟨undef, Or.inr ⟨hw, rfl⟩, h.2 hw⟩
    obtain ⟨v, hy, hK⟩ := hy
    rw [List.length_cons, Nat.add_right_comm]
    have hcs : (closeB md ops k listed).size = ops.size := by simpa using b4
    refine wpAnyB_first h0 (by simpa using b3) (Region.noSelect_spec hs) hQ (closeB md ops k listed) hcs (fun j hj => by simpa using (List.all_eq_true.1 b5) j hj) (fun j hj => ?_) (l.length + m) listed a w (Region.free_spec h0 b2) (by simpa using b1) (fun j hj => ?_) hy hC
      (wpAnyB_lex hs hQ m l (k + 1) _ _ w (fun j hj => by have := hl (j + 1) (by simp; omega); simpa [Nat.add_assoc, Nat.add_comm 1 j] using this) b8 hC hK)
    · rcases Nat.lt_or_ge j (closeB md ops k listed).size with h' | h'
      · have := (List.all_eq_true.1 b6) j (List.mem_range.2 h')
        simp at this
        rcases this with h2 | h2
        · omega
        · simpa [Array.getD, h'] using h2
      · simp [Array.getD, Nat.not_lt.2 h']
    · rcases Nat.lt_or_ge j listed.size with h' | h'
      · have := (List.all_eq_true.1 b7) j (List.mem_range.2 h')
        simp only [Bool.or_eq_true, Bool.not_eq_true'] at this
        rcases this with h2 | h2
        · rw [hj] at h2; cases h2
        · exact h2
      · simp [Array.getD, Nat.not_lt.2 h'] at hj

/-- THE REGION. -/
theorem wp_region_det {id : Nat} {a : Act} {w : World} (l r : List Oper) (t : Nat) (hm : P.follows .mixedOrders = true) (hs : Region.noSelect (l ++ r).toArray = true)
    (hQ : ∀ d v c a w, Q (.panic c) (Act.put a d v) w → Q (.panic c) a w) (hB : detB .any (l ++ r).toArray t l.length 0 (Array.replicate (l ++ r).length false) = true)
    (h : wpDet P (l ++ r).toArray (Ext w) (fun a' => wpAnyB P .any (l ++ r).toArray Q t r.length (listN l.length 0 (Array.replicate (l ++ r).length false)) a' w.drew) l a) : (Code.region id (l ++ r).toArray true).wp P Q a w := by
  refine wp_region_any hm (wpAny_of_B (t := t) _ ?_)
  have := wpAnyB_lex (C := Ext w) (md := .any) (w := w.drew) hs hQ r.length l 0 (Array.replicate (l ++ r).length false) a (fun j hj => by simp [List.getElem?_append_left hj]) hB (fun w' hw' => (Ext.drew w).trans hw') h
  simpa using this
/-- THE REGION, its operations as they stand; d of them are taken in the text's order, m are left. -/
theorem wp_region_from {id : Nat} {a : Act} {w : World} (d m t : Nat) (hdm : ops.size = d + m) (hm : P.follows .mixedOrders = true) (hs : Region.noSelect ops = true)
    (hQ : ∀ d v c a w, Q (.panic c) (Act.put a d v) w → Q (.panic c) a w) (hB : detB .any ops t d 0 (Array.replicate ops.size false) = true)
    (h : wpDet P ops (Ext w) (fun a' => wpAnyB P .any ops Q t m (listN d 0 (Array.replicate ops.size false)) a' w.drew) (ops.toList.take d) a) : (Code.region id ops true).wp P Q a w := by
  have hl : (ops.toList.take d).length = d := by simp; omega
  refine wp_region_any hm (wpAny_of_B (t := t) _ ?_)
  have := wpAnyB_lex (C := Ext w) (md := .any) (w := w.drew) hs hQ m (ops.toList.take d) 0 (Array.replicate ops.size false) a (fun j hj => by
    rw [hl] at hj
    rw [List.getElem?_take_of_lt hj, Nat.zero_add, Array.getElem?_toList]) (by rw [hl]; exact hB) (fun w' hw' => (Ext.drew w).trans hw') (by rw [hl]; exact h)
  rw [hl] at this
  rw [hdm] at this ⊢
  exact this
end

end Go.Proofs.YtcadfccijeodbaaDoor

/- Steps and ends of a drawn region's one walk; equality of arrays of bytes. Nothing here speaks of a program. Each theorem names its own conditions. -/
namespace Go.Proofs.YtcadfccijeodbaaDoor
open Go.RowKit
set_option linter.unusedVariables false

section
variable {P : Program} {ops : Array Oper} {Q : Exit → Act → World → Prop} {md : Region.Mode} {t : Nat} {C : World → Prop} {D : Act → Prop}

theorem det_nil {a : Act} (h : D a) : wpDet P ops C D [] a := h
/-- A value that is had in every world of the class. -/
theorem det_val {o : Oper} {rest : List Oper} {a : Act} (v : Value) (hw : Region.wanted o (yielded ops a.tmps) = true) (h : ∀ w, C w → (execOp a.eval o).run P w = .ok (.value v) w)
    (next : wpDet P ops C D rest (a.put o.dst v)) : wpDet P ops C D (o :: rest) a :=
  ⟨fun _ => ⟨v, fun w hw' => by unfold Oper.quietAt; rw [h w hw']; exact ⟨rfl, rfl⟩, next⟩, fun h' => by rw [hw] at h'; cases h'⟩
/-- An operation that is guarded off. -/
theorem det_skip {o : Oper} {rest : List Oper} {a : Act} (hw : Region.wanted o (yielded ops a.tmps) = false) (next : wpDet P ops C D rest (a.put o.dst undef)) : wpDet P ops C D (o :: rest) a :=
  ⟨fun h' => (by rw [hw] at h'; cases h'), fun _ => next⟩
theorem det_move {o : Oper} {rest : List Oper} {a : Act} (x : Operand) (v : Value) (hw : Region.wanted o (yielded ops a.tmps) = true) (ho : o.op = .move x) (hx : a.eval x = v)
    (next : wpDet P ops C D rest (a.put o.dst v)) : wpDet P ops C D (o :: rest) a :=
  det_val v hw (fun w _ => by unfold execOp; simp only [ho, hx, Sem.run_pure]) next
theorem det_assign {o : Oper} {rest : List Oper} {a : Act} (x : Operand) (v : Value) (hw : Region.wanted o (yielded ops a.tmps) = true) (ho : o.op = .assign x) (hx : a.eval x = v)
    (next : wpDet P ops C D rest (a.put o.dst v)) : wpDet P ops C D (o :: rest) a :=
  det_val v hw (fun w _ => by unfold execOp; simp only [ho, hx, Sem.run_pure]) next
theorem det_pick {o : Oper} {rest : List Oper} {a : Act} (c x y : Operand) (b : Bool) (v : Value) (hw : Region.wanted o (yielded ops a.tmps) = true) (ho : o.op = .pick c x y) (hc : a.eval c = .bool b) (hx : (if b then a.eval x else a.eval y) = v)
    (next : wpDet P ops C D rest (a.put o.dst v)) : wpDet P ops C D (o :: rest) a :=
  det_val v hw (fun w _ => by
    unfold execOp
    cases b <;> simp only [ho, hc, Bool.false_eq_true, if_false, if_true] at hx ⊢ <;> simp [asBool, hx]) next
/-- The load of a whole array. -/
theorem det_load {o : Oper} {rest : List Oper} {a : Act} (ty : TypeId) (x : Operand) (c : Nat) (cs : List Value) (d : TypeDesc) (hw : Region.wanted o (yielded ops a.tmps) = true) (ho : o.op = .load ty x)
    (hx : a.eval x = .pointer (some ⟨c, 0, none⟩)) (hC : ∀ w, C w → w.rangeAt c 0 cs) (hu : P.underlying ty = some d) (hd : d.isRow = true) (hi : (P.info? ty).map (·.size) = some cs.length)
    (next : wpDet P ops C D rest (a.put o.dst (.agg cs.toArray))) : wpDet P ops C D (o :: rest) a := by
  rcases yieldsIf_load_mid (S := C) hw ty x ho c 0 hx cs d hC hu hd hi with ⟨_, h⟩ | ⟨h, _⟩
  · exact det_val _ hw h next
  · rw [hw] at h; cases h
/-- A call that leaves old memory alone. -/
theorem det_call {o : Oper} {rest : List Oper} {a : Act} (f : FuncId) (bs : Array Operand) (ts : Array TypeId) (args : List Value) (v : Value) (hw : Region.wanted o (yielded ops a.tmps) = true)
    (ho : o.op = .call { callee := .value (.func f), args := bs, argTypes := ts }) (hen : ∀ args w, (callFunc f args).run P w = .ok (.enter f args) w) (ha : bs.toList.map a.eval = args)
    (hc : ∀ w, C w → Calls P f args.toArray w fun e w' => e = .returned v ∧ Below w.heap.size w w') (next : wpDet P ops C D rest (a.put o.dst v)) : wpDet P ops C D (o :: rest) a :=
  ⟨fun _ => ⟨v, fun w hw' => by
    have hb : bs.map a.eval = args.toArray := by
      apply Array.ext'
      simpa using ha
    unfold Oper.quietAt execOp
    simp only [ho, resolve, hb, Sem.run_bind]
    simp only [Act.eval, Deferred.ofValue, Sem.run_pure, Result.andThen_ok, invoke, Array.append_empty, Array.empty_append, hen]
    exact ⟨rfl, hc w hw'⟩, next⟩, fun h' => by rw [hw] at h'; cases h'⟩
/-- The load of one cell. -/
theorem det_cell {o : Oper} {rest : List Oper} {a : Act} (ty : TypeId) (x : Operand) (c k : Nat) (v : Value) (hw : Region.wanted o (yielded ops a.tmps) = true) (ho : o.op = .load ty x)
    (hx : a.eval x = .pointer (some ⟨c, k, none⟩)) (hC : ∀ w, C w → w.cell? ⟨c, k, none⟩ = some v) (ha : ∀ w, (isAgg ty).run P w = .ok false w)
    (next : wpDet P ops C D rest (a.put o.dst v)) : wpDet P ops C D (o :: rest) a :=
  det_val v hw (fun w hw' => by
    have hc := hC w hw'
    unfold execOp
    simp [ho, hx, Instr.loadAt, Instr.sureAddr, loadVar, ha, hc]) next
theorem det_mul {o : Oper} {rest : List Oper} {a : Act} (ty rt : TypeId) (x y : Operand) (k : IntKind) (m n r : Int) (hw : Region.wanted o (yielded ops a.tmps) = true) (ho : o.op = .binOp .mul ty x y rt) (hx : a.eval x = .int k m) (hy : a.eval y = .int k n) (hr : k.wrap (m * n) = r)
    (next : wpDet P ops C D rest (a.put o.dst (.int k r))) : wpDet P ops C D (o :: rest) a :=
  det_val _ hw (fun w _ => by unfold execOp; simp [ho, hx, hy, eqGuard, binOp, Op.intArith, hr]) next
theorem det_add {o : Oper} {rest : List Oper} {a : Act} (ty rt : TypeId) (x y : Operand) (k : IntKind) (m n r : Int) (hw : Region.wanted o (yielded ops a.tmps) = true) (ho : o.op = .binOp .add ty x y rt) (hx : a.eval x = .int k m) (hy : a.eval y = .int k n) (hr : k.wrap (m + n) = r)
    (next : wpDet P ops C D rest (a.put o.dst (.int k r))) : wpDet P ops C D (o :: rest) a :=
  det_val _ hw (fun w _ => by unfold execOp; simp [ho, hx, hy, eqGuard, binOp, Op.intArith, hr]) next
theorem det_sub {o : Oper} {rest : List Oper} {a : Act} (ty rt : TypeId) (x y : Operand) (k : IntKind) (m n r : Int) (hw : Region.wanted o (yielded ops a.tmps) = true) (ho : o.op = .binOp .sub ty x y rt) (hx : a.eval x = .int k m) (hy : a.eval y = .int k n) (hr : k.wrap (m - n) = r)
    (next : wpDet P ops C D rest (a.put o.dst (.int k r))) : wpDet P ops C D (o :: rest) a :=
  det_val _ hw (fun w _ => by unfold execOp; simp [ho, hx, hy, eqGuard, binOp, Op.intArith, hr]) next
theorem det_and {o : Oper} {rest : List Oper} {a : Act} (ty rt : TypeId) (x y : Operand) (k : IntKind) (m n r : Int) (hw : Region.wanted o (yielded ops a.tmps) = true) (ho : o.op = .binOp .and ty x y rt) (hx : a.eval x = .int k m) (hy : a.eval y = .int k n) (hr : bits .and k m n = r)
    (next : wpDet P ops C D rest (a.put o.dst (.int k r))) : wpDet P ops C D (o :: rest) a :=
  det_val _ hw (fun w _ => by rw [← hr]; unfold execOp bits; simp [ho, hx, hy, eqGuard, binOp, Op.intBits]) next
theorem det_or {o : Oper} {rest : List Oper} {a : Act} (ty rt : TypeId) (x y : Operand) (k : IntKind) (m n r : Int) (hw : Region.wanted o (yielded ops a.tmps) = true) (ho : o.op = .binOp .or ty x y rt) (hx : a.eval x = .int k m) (hy : a.eval y = .int k n) (hr : bits .or k m n = r)
    (next : wpDet P ops C D rest (a.put o.dst (.int k r))) : wpDet P ops C D (o :: rest) a :=
  det_val _ hw (fun w _ => by rw [← hr]; unfold execOp bits; simp [ho, hx, hy, eqGuard, binOp, Op.intBits]) next
theorem det_xor {o : Oper} {rest : List Oper} {a : Act} (ty rt : TypeId) (x y : Operand) (k : IntKind) (m n r : Int) (hw : Region.wanted o (yielded ops a.tmps) = true) (ho : o.op = .binOp .xor ty x y rt) (hx : a.eval x = .int k m) (hy : a.eval y = .int k n) (hr : bits .xor k m n = r)
    (next : wpDet P ops C D rest (a.put o.dst (.int k r))) : wpDet P ops C D (o :: rest) a :=
  det_val _ hw (fun w _ => by rw [← hr]; unfold execOp bits; simp [ho, hx, hy, eqGuard, binOp, Op.intBits]) next
/-- The address of an array's element, of a struct's field. -/
theorem det_index {o : Oper} {rest : List Oper} {a : Act} (ty e : TypeId) (x y : Operand) (c n : Nat) (j : Nat) (hw : Region.wanted o (yielded ops a.tmps) = true) (ho : o.op = .indexAddr ty x y) (hx : a.eval x = .pointer (some ⟨c, 0, none⟩)) (hy : a.eval y = .int .i64 (j : Int))
    (hu : P.underlying ty = some (.array n e)) (hj : j < n) (hs : ∀ w, (sizeOf e).run P w = .ok 1 w)
    (next : wpDet P ops C D rest (a.put o.dst (.pointer (some ⟨c, j, none⟩)))) : wpDet P ops C D (o :: rest) a :=
  det_val _ hw (fun w _ => by
    have h1 : (0 : Int) ≤ (j : Int) ∧ (j : Int) < (n : Int) := by omega
    unfold execOp
    simp [ho, hx, hy, Instr.indexAt, asIntOf, run_underlying hu, Instr.sureAddr, h1, hs, Addr.add_mid, hj]) next
theorem det_field {o : Oper} {rest : List Oper} {a : Act} (ty : TypeId) (x : Operand) (c f j : Nat) (hw : Region.wanted o (yielded ops a.tmps) = true) (ho : o.op = .fieldAddr ty x f) (hx : a.eval x = .pointer (some ⟨c, 0, none⟩))
    (hr : ∀ w, (Instr.fieldAt ty (.pointer (some ⟨c, 0, none⟩)) f).run P w = .ok (.pointer (some ⟨c, j, none⟩)) w)
    (next : wpDet P ops C D rest (a.put o.dst (.pointer (some ⟨c, j, none⟩)))) : wpDet P ops C D (o :: rest) a :=
  det_val _ hw (fun w _ => by unfold execOp; simp only [ho, hx, Sem.run_bind, hr, Result.andThen_ok, Sem.run_pure]) next

/-! ### Arrays of bytes, held against each other -/
theorem bval_eq {x y : UInt8} : bval x = bval y ↔ x = y := by
  unfold bval
  constructor
  · intro h
    injection h with _ h
    exact UInt8.toNat_inj.1 (by omega)
  · rintro rfl
    rfl
theorem run_eqItems_bytes {e : TypeId} {i : TypeInfo} (he : P.underlying e = some (.int .u8)) (hi : P.info? e = some i) (d : Nat) (xs ys : List UInt8) (w : World) : ∀ is : List Nat, (∀ j ∈ is, j < xs.length ∧ j < ys.length) →
    (Op.eqItems (d + 1) e 1 (xs.map bval).toArray (ys.map bval).toArray is).run P w = .ok (is.all fun j => decide (xs.getD j 0 = ys.getD j 0)) w
  | [], _ => by simp [Op.eqItems]
  | j :: is, h => by
    obtain ⟨g1, g2⟩ := h j (List.mem_cons_self ..)
    have ih := run_eqItems_bytes he hi d xs ys w is (fun k hk => h k (List.mem_cons_of_mem _ hk))
    have p1 : ∀ zs : List UInt8, j < zs.length → (part e (zs.map bval).toArray (j * 1)).run P w = .ok (bval (zs.getD j 0)) w := by
      intro zs hz
      simp [part, isAgg, run_underlying he, hz, List.getD]
    simp only [Op.eqItems, Sem.run_bind, p1 xs g1, p1 ys g2, Result.andThen_ok, Op.equalIn, run_underlying he]
    have hbv : ∀ z : UInt8, bval z = .int .u8 (z.toNat : Int) := fun _ => rfl
    simp only [hbv]
    by_cases hq : xs.getD j 0 = ys.getD j 0
    · simp only [hq, if_true, beq_self_eq_true, Sem.run_pure, Result.andThen_ok, Bool.not_true, Bool.false_eq_true, if_false, ih, List.all_cons, decide_true, Bool.true_and]
    · have hb : (((xs.getD j 0).toNat : Int) == ((ys.getD j 0).toNat : Int)) = false := by
        rw [beq_eq_false_iff_ne]
        intro h'
        exact hq (UInt8.toNat_inj.1 (by omega))
      simp only [if_true, hb, Sem.run_pure, Result.andThen_ok, Bool.not_false, List.all_cons, hq, decide_false, Bool.false_and]

theorem run_equal_bytes {ty e : TypeId} {n : Nat} {i : TypeInfo} (hu : P.underlying ty = some (.array n e)) (he : P.underlying e = some (.int .u8)) (hi : P.info? e = some i) (hc : P.cellsOf e = 1) (xs ys : List UInt8) (hx : xs.length = n) (hy : ys.length = n) (w : World) :
    (Op.equal ty (.agg (xs.map bval).toArray) (.agg (ys.map bval).toArray)).run P w = .ok (decide (xs = ys)) w := by
  have h1 := run_equalIn_array (P := P) w 9999 (xs.map bval).toArray (ys.map bval).toArray hu hi
  rw [hc, run_eqItems_bytes he hi 9998 xs ys w (List.range n) (fun j hj => by have := List.mem_range.1 hj; omega)] at h1
  refine Eq.trans h1 ?_
  congr 1
  rw [Bool.eq_iff_iff, List.all_eq_true, decide_eq_true_iff]
  constructor
  · intro h
    apply List.ext_getElem (by omega)
    intro k hk1 hk2
    have := h k (List.mem_range.2 (by omega))
    simpa [List.getD, hk1, hk2] using this
  · rintro rfl j _
    simp

/-- Two arrays of bytes, held against each other. -/
theorem det_eql {o : Oper} {rest : List Oper} {a : Act} (b : BinOp) (ty rt e : TypeId) (x y : Operand) (n : Nat) (i : TypeInfo) (xs ys : List UInt8) (r : Bool) (hw : Region.wanted o (yielded ops a.tmps) = true) (ho : o.op = .binOp b ty x y rt)
    (hb : b = .eql ∧ decide (xs = ys) = r ∨ b = .neq ∧ decide (xs = ys) = !r)
    (hu : P.underlying ty = some (.array n e)) (he : P.underlying e = some (.int .u8)) (hi : P.info? e = some i) (hc : P.cellsOf e = 1) (hg : P.eqGuardType P.depth ty = false)
    (hx : a.eval x = .agg (xs.map bval).toArray) (hy : a.eval y = .agg (ys.map bval).toArray) (lx : xs.length = n) (ly : ys.length = n)
    (next : wpDet P ops C D rest (a.put o.dst (.bool r))) : wpDet P ops C D (o :: rest) a :=
  det_val _ hw (fun w _ => by
    have h1 := run_equal_bytes hu he hi hc xs ys lx ly w
    rcases hb with ⟨rfl, hb⟩ | ⟨rfl, hb⟩
    · rw [hb] at h1
      unfold execOp
      simp [ho, hx, hy, eqGuard, hg, binOp, h1]
    · rw [hb] at h1
      unfold execOp
      simp [ho, hx, hy, eqGuard, hg, binOp, h1]) next

/-! ### The ends -/
/-- All have come up. -/
theorem end_none {listed : Array Bool} {a : Act} {w : World} (hr : Region.ready md ops listed = []) (h : ∀ w', Ext w w' → Q .normal a w') : wpAnyB P md ops Q t 0 listed a w.drew :=
  fun w' hw' => ⟨hr, h w' ((Ext.drew w).trans hw')⟩
/-- One store is owed. -/
theorem end_store {k : Nat} {o : Oper} {listed : Array Bool} {a : Act} {w : World} (hk : ops[k]? = some o) (hr : Region.ready md ops listed = [k]) (hr2 : Region.ready md ops (listed.setIfInBounds k true) = []) (hd : doneB t listed = true) (hg : o.guard = none)
    (h : ∀ w', Ext w w' → o.wp P a w' (fun a' w'' => Q .normal a' w'') Q) : wpAnyB P md ops Q t 1 listed a w.drew := by
  refine ⟨fun _ w' hw' => ⟨fun h0 => (by rw [hr] at h0; cases h0), fun i hi => ?_⟩, fun h0 => (by rw [hd] at h0; cases h0)⟩
  rw [hr] at hi
  obtain rfl : i = k := by simpa using hi
  unfold wpOp
  simp only [hk, Region.wanted, hg, if_true]
  exact Or.inl (Oper.wp_mono (fun a' w'' h' => ⟨hr2, h'⟩) (h w' ((Ext.drew w).trans hw')))
/-- A variable is to be made, and one store into it. -/
theorem end_alloc {k : Nat} {o1 o2 : Oper} {listed : Array Bool} {a : Act} {w : World} (hk : ops[k]? = some o1) (hk2 : ops[k + 1]? = some o2) (hr : Region.ready md ops listed = [k]) (hr2 : Region.ready md ops (listed.setIfInBounds k true) = [k + 1])
    (hr3 : Region.ready md ops ((listed.setIfInBounds k true).setIfInBounds (k + 1) true) = []) (hd : doneB t listed = false) (hd2 : doneB t (listed.setIfInBounds k true) = true) (hg : o1.guard = none) (hg2 : o2.guard = none)
    (h : ∀ w', Ext w w' → o1.wp P a w' (fun a' w'' => Ext w' w'' ∧ ∀ w3, Ext w'' w3 → o2.wp P a' w3 (fun a'' w4 => Q .normal a'' w4) Q) Q) : wpAnyB P md ops Q t 2 listed a w.drew := by
  refine ⟨fun h0 => (by rw [hd] at h0; cases h0), fun _ w' hw' => ⟨by rw [hr]; simp, fun i hi => ?_⟩⟩
  rw [hr] at hi
  obtain rfl : i = k := by simpa using hi
  unfold wpOp
  simp only [hk, Region.wanted, hg, if_true]
  refine Or.inl (Oper.wp_mono (fun a' w'' h' => ⟨h'.1, ?_⟩) (h w' ((Ext.drew w).trans hw')))
  refine ⟨fun _ w3 hw3 => ⟨fun h0 => (by rw [hr2] at h0; cases h0), fun j hj => ?_⟩, fun h0 => (by rw [hd2] at h0; cases h0)⟩
  rw [hr2] at hj
  obtain rfl : j = i + 1 := by simpa using hj
  unfold wpOp
  simp only [hk2, Region.wanted, hg2, if_true]
  exact Or.inl (Oper.wp_mono (fun a'' w4 h4 => ⟨hr3, h4⟩) (h'.2 w3 hw3))

/-- A whole array is stored into what stands: the region's end. -/
theorem end_set {k : Nat} {o : Oper} {listed : Array Bool} {a : Act} {w : World} (ty tb : TypeId) (x y : Operand) (c : Nat) (vs cs : List Value) (hk : ops[k]? = some o) (hr : Region.ready md ops listed = [k]) (hr2 : Region.ready md ops (listed.setIfInBounds k true) = []) (hd : doneB t listed = true) (hg : o.guard = none)
    (ho : o.op = .store ty x y) (hx : a.eval x = .pointer (some ⟨c, 0, none⟩)) (hy : a.eval y = .agg vs.toArray) (hb : Blk w c cs tb) (hl : vs.length = cs.length) (hi : (P.info? ty).map (·.size) = some vs.length) (h1 : ∀ v ∈ vs, v.oneCell' = true)
    (h : ∀ w', Blk w' c vs tb → w.grownBy w' (some c) → Q .normal (a.put o.dst undef) w') : wpAnyB P md ops Q t 1 listed a w.drew :=
  end_store hk hr hr2 hd hg fun w' hw' => wp_store_blk ty x y ho c vs hx hy tb cs (hb.same (hw'.block _ hb.lt)) hl hi h1 fun w4 hb4 hg4 => h w4 hb4 (grownBy_trans (grown_of_below hw' _) hg4)
/-- A variable is made, and a whole array stored into it: the region's end. -/
theorem end_var {k : Nat} {o1 o2 : Oper} {listed : Array Bool} {a : Act} {w : World} (ty : TypeId) (d : Nat) (y : Operand) (zs vs : List Value) (hk : ops[k]? = some o1) (hk2 : ops[k + 1]? = some o2) (hr : Region.ready md ops listed = [k]) (hr2 : Region.ready md ops (listed.setIfInBounds k true) = [k + 1])
    (hr3 : Region.ready md ops ((listed.setIfInBounds k true).setIfInBounds (k + 1) true) = []) (hd : doneB t listed = false) (hd2 : doneB t (listed.setIfInBounds k true) = true) (hg : o1.guard = none) (hg2 : o2.guard = none)
    (ho : o1.op = .alloc ty) (hdst : o1.dst = some d) (hz : ∀ w, (zeroValue ty).run P w = .ok (.agg zs.toArray) w)
    (ho2 : o2.op = .store ty (.tmp d) y) (hd' : d < a.tmps.size) (hy : ∀ p, (a.put (some d) (.pointer (some ⟨p, 0, none⟩))).eval y = .agg vs.toArray) (hl : vs.length = zs.length) (hi : (P.info? ty).map (·.size) = some vs.length) (h1 : ∀ v ∈ vs, v.oneCell' = true)
    (h : ∀ p w', w.heap.size ≤ p → Blk w' p vs ty → Ext w w' → Q .normal ((a.put (some d) (.pointer (some ⟨p, 0, none⟩))).put o2.dst undef) w') : wpAnyB P md ops Q t 2 listed a w.drew := by
  have hal : ∀ w, (execOp a.eval o1).run P w = .ok (.value (.pointer (some ⟨w.heap.size, 0, none⟩))) (w.alloc (.cells zs.toArray ty)) := fun w => by
    unfold execOp
    simp [ho, Instr.alloc, hz, newVar, newRow, Value.cells]
  refine end_alloc hk hk2 hr hr2 hr3 hd hd2 hg hg2 fun w' hw' => ?_
  unfold Oper.wp
  rw [hal w']
  simp only [Oper.upon, hdst]
  refine ⟨Ext.alloc _ _, fun w3 hw3 => ?_⟩
  have hb : Blk w3 w'.heap.size zs ty := (Blk.made w' zs ty).same (hw3.block _ (Blk.made w' zs ty).lt)
  refine wp_store_blk ty (.tmp d) y ho2 w'.heap.size vs ?_ (hy _) ty zs hb hl hi h1 fun w4 hb4 hg4 => h _ w4 hw'.size hb4 ?_
  · simp [Act.eval, Act.put, Array.getD, hd']
  · exact Below.grown (hw'.trans ((Ext.alloc w' _).trans hw3)) hg4 (hw'.trans ((Ext.alloc w' _).trans hw3)).size (fun r hr => by cases hr; exact hw'.size)
/-- The result that lies in a cell, an array or a struct of one-cell parts. -/
theorem result_row {w : World} {fn : Func} {p : Tmp} {ty : TypeId} (h : fn.results = #[.cell p ty]) (tmps : Array Value) (c : Nat) (tb : TypeId) (cs : List Value) (d : TypeDesc)
    (hp : tmps.getD p undef = .pointer (some ⟨c, 0, none⟩)) (hb : Blk w c cs tb) (hu : P.underlying ty = some d) (hd : d.isRow = true) (hi : (P.info? ty).map (·.size) = some cs.length) :
    (results fn tmps).run P w = .ok (.agg cs.toArray) w :=
  results_cell_row h tmps w c tb cs.toArray (0, 0) d hp hb hu (by cases d <;> simp_all [TypeDesc.isRow]) (by simpa using hi)
theorem ext_blk {w w' : World} {c : Nat} {cs : List Value} {tb : TypeId} (h : Blk w c cs tb) (hb : Ext w w') : Blk w' c cs tb := h.same (hb.block _ h.lt)
theorem ext_range {w w' : World} {c : Nat} {cs : List Value} {tb : TypeId} (h : Blk w c cs tb) (hb : Ext w w') : w'.rangeAt c 0 cs := (ext_blk h hb).range
theorem ext_grown {a b d : World} {c : Nat} (h : Ext a b) (hg : b.grownBy d (some c)) (hc : a.heap.size ≤ c) : Ext a d := Below.grown h hg h.size (fun k hk => by cases hk; exact hc)
end

end Go.Proofs.YtcadfccijeodbaaDoor

/- Bytes and the numbers that they are, digits to any base, small lemmas on lists and bits. No program. Each theorem names its own conditions. -/
namespace Go.Proofs.YtcadfccijeodbaaDoor
open Go.RowKit
set_option linter.unusedVariables false
set_option linter.unusedSimpArgs false

theorem getD_set_same {zs : List Int} {i : Nat} {z : Int} (h : i < zs.length) : (zs.set i z).getD i 0 = z := by simp [List.getD, h]
theorem getD_set_far {zs : List Int} {i j : Nat} {z : Int} (h : i ≠ j) : (zs.set i z).getD j 0 = zs.getD j 0 := by simp [List.getD, List.getElem?_set_ne h]
theorem all_of_getD {zs : List Int} {n : Nat} {P : Int → Prop} (hl : zs.length = n) (h : ∀ i, i < n → P (zs.getD i 0)) : ∀ z ∈ zs, P z := by
  intro z hz
  obtain ⟨i, hi, rfl⟩ := List.getElem_of_mem hz
  have := h i (by omega)
  rwa [show zs.getD i 0 = zs[i] from by simp [List.getD, hi]] at this
theorem getD_of_all {zs : List Int} {P : Int → Prop} (h : ∀ z ∈ zs, P z) {i : Nat} (hi : i < zs.length) : P (zs.getD i 0) := by
  rw [show zs.getD i 0 = zs[i] from by simp [List.getD, hi]]
  exact h _ (List.getElem_mem _)
/-- The number that bytes are, the lowest first. -/
def leN : List UInt8 → Nat
  | [] => 0
  | b :: r => b.toNat + 256 * leN r
theorem bytes32 (l : List UInt8) (h : l.length = 32) : l = [l.getD 0 0, l.getD 1 0, l.getD 2 0, l.getD 3 0, l.getD 4 0, l.getD 5 0, l.getD 6 0, l.getD 7 0, l.getD 8 0, l.getD 9 0, l.getD 10 0, l.getD 11 0, l.getD 12 0, l.getD 13 0, l.getD 14 0, l.getD 15 0,
    l.getD 16 0, l.getD 17 0, l.getD 18 0, l.getD 19 0, l.getD 20 0, l.getD 21 0, l.getD 22 0, l.getD 23 0, l.getD 24 0, l.getD 25 0, l.getD 26 0, l.getD 27 0, l.getD 28 0, l.getD 29 0, l.getD 30 0, l.getD 31 0] := by
  match l, h with
  | [_, _, _, _, _, _, _, _, _, _, _, _, _, _, _, _, _, _, _, _, _, _, _, _, _, _, _, _, _, _, _, _], _ => rfl
theorem bval_get {l : List UInt8} {i : Nat} (h : i < l.length) : (l.map bval)[i]? = some (.int .u8 ((l.getD i 0).toNat : Int)) := by
  simp [bval, List.getD, h]
/-- A number's bytes, the lowest first. -/
def bytesN : Nat → Nat → List UInt8
  | 0, _ => []
  | k + 1, n => UInt8.ofNat (n % 256) :: bytesN k (n / 256)
theorem bytesN_leN : ∀ (l : List UInt8), bytesN l.length (leN l) = l
  | [] => rfl
  | b :: r => by
    have hb := b.toNat_lt
    have e1 : (b.toNat + 256 * leN r) % 256 = b.toNat := by omega
    have e2 : (b.toNat + 256 * leN r) / 256 = leN r := by omega
    simp only [leN, List.length_cons, bytesN, e1, e2, bytesN_leN r]
    congr 1
    simp
theorem bytesN_length : ∀ (k n : Nat), (bytesN k n).length = k
  | 0, _ => rfl
  | k + 1, n => by simp [bytesN, bytesN_length k]
theorem leN_bytesN : ∀ (k n : Nat), leN (bytesN k n) = n % 256 ^ k
  | 0, n => by simp [bytesN, leN, Nat.mod_one]
  | k + 1, n => by
    have := leN_bytesN k (n / 256)
    have e1 : (UInt8.ofNat (n % 256)).toNat = n % 256 := by
      rw [UInt8.toNat_ofNat']
      omega
    simp only [bytesN, leN, this, e1, Nat.pow_succ]
    rw [Nat.mul_comm (256 ^ k) 256, Nat.mod_mul]
theorem bytesN_append : ∀ (m n x : Nat), bytesN (m + n) x = bytesN m x ++ bytesN n (x / 256 ^ m)
  | 0, n, x => by simp [bytesN]
  | m + 1, n, x => by
    rw [Nat.add_right_comm]
    simp only [bytesN, List.cons_append]
    rw [bytesN_append m n (x / 256), Nat.div_div_eq_div_mul, Nat.pow_succ, Nat.mul_comm 256]
theorem bytesN_mod : ∀ (m x : Nat), bytesN m (x % 256 ^ m) = bytesN m x
  | 0, _ => rfl
  | m + 1, x => by
    have e1 : x % 256 ^ (m + 1) % 256 = x % 256 := Nat.mod_mod_of_dvd _ ⟨256 ^ m, by rw [Nat.pow_succ, Nat.mul_comm]⟩
    have e2 : x % 256 ^ (m + 1) / 256 = x / 256 % 256 ^ m := by rw [Nat.pow_succ, Nat.mul_comm, Nat.mod_mul_right_div_self]
    simp only [bytesN, e1, e2, bytesN_mod m]
theorem leN_lt : ∀ (l : List UInt8), leN l < 256 ^ l.length
  | [] => by simp [leN]
  | b :: r => by
    have hb := b.toNat_lt
    have := leN_lt r
    simp only [leN, List.length_cons, Nat.pow_succ]
    omega
theorem andU1 (n : Nat) : bits .and .u8 (n : Int) 1 = ((n % 2 : Nat) : Int) := by
  have h : (BitVec.ofInt 8 1).toNat = 2 ^ 1 - 1 := by decide
  have key : (BitVec.ofInt 8 (n : Int) &&& BitVec.ofInt 8 1).toNat = ((n : Int) % ((2 ^ 8 : Nat) : Int)).toNat % 2 ^ 1 := by
    rw [BitVec.toNat_and, BitVec.toNat_ofInt, h, Nat.and_two_pow_sub_one_eq_mod]
  show IntKind.u8.wrap ((BitVec.ofInt 8 (n : Int) &&& BitVec.ofInt 8 1).toNat : Nat) = _
  rw [key, IntKind.wrap_u8]
  omega
/-- A number's bit stands in its byte. -/
theorem leN_bit : ∀ (l : List UInt8) (i : Nat), i < 8 * l.length → leN l / 2 ^ i % 2 = (l.getD (i / 8) 0).toNat / 2 ^ (i % 8) % 2
  | [], i, h => by simp at h
  | b :: r, i, h => by
    rcases Nat.lt_or_ge i 8 with h8 | h8
    · have e1 : i / 8 = 0 := by omega
      have e2 : i % 8 = i := by omega
      rw [e1, e2]
      simp only [leN, List.getD_cons_zero]
      generalize leN r = R
      generalize b.toNat = c
      rcases (by omega : i = 0 ∨ i = 1 ∨ i = 2 ∨ i = 3 ∨ i = 4 ∨ i = 5 ∨ i = 6 ∨ i = 7) with rfl | rfl | rfl | rfl | rfl | rfl | rfl | rfl <;> simp only [Nat.reducePow] <;> omega
    · obtain ⟨j, rfl⟩ : ∃ j, i = 8 + j := ⟨i - 8, by omega⟩
      have hb := b.toNat_lt
      have e1 : (8 + j) / 8 = j / 8 + 1 := by omega
      have e2 : (8 + j) % 8 = j % 8 := by omega
      rw [e1, e2, List.getD_cons_succ, ← leN_bit r j (by rw [List.length_cons] at h; omega), Nat.pow_add, ← Nat.div_div_eq_div_mul]
      congr 2
      simp only [leN]
      omega
theorem w64 {a : Nat} (ha : a < 18446744073709551616) : IntKind.u64.wrap (a : Int) = (a : Int) := by rw [IntKind.wrap_u64]; omega
theorem w64m (a : Nat) : IntKind.u64.wrap (a : Int) = ((a % 18446744073709551616 : Nat) : Int) := by rw [IntKind.wrap_u64]; omega
theorem natDiv (a b : Nat) : (a : Int) / (b : Int) = ((a / b : Nat) : Int) := by simp
theorem natMul (a b : Nat) : (a : Int) * (b : Int) = ((a * b : Nat) : Int) := (Int.natCast_mul a b).symm
theorem natAdd (a b : Nat) : (a : Int) + (b : Int) = ((a + b : Nat) : Int) := (Int.natCast_add a b).symm
theorem or64 (a b : Nat) (ha : a < 18446744073709551616) (hb : b < 18446744073709551616) : bits .or .u64 (a : Int) (b : Int) = ((a ||| b : Nat) : Int) := by
  have e1 : (BitVec.ofInt 64 (a : Int)).toNat = a := by rw [BitVec.toNat_ofInt]; omega
  have e2 : (BitVec.ofInt 64 (b : Int)).toNat = b := by rw [BitVec.toNat_ofInt]; omega
  show IntKind.u64.wrap ((BitVec.ofInt 64 (a : Int) ||| BitVec.ofInt 64 (b : Int)).toNat : Nat) = _
  have e3 := (BitVec.ofInt 64 (a : Int) ||| BitVec.ofInt 64 (b : Int)).isLt
  rw [BitVec.toNat_or, e1, e2] at e3 ⊢
  exact w64 e3
/-- High bits and low bits laid together are their sum. -/
theorem or_sum (k x y : Nat) (hx : x < 2 ^ k) : 2 ^ k * y ||| x = 2 ^ k * y + x := (Nat.two_pow_add_eq_or_of_lt hx y).symm
theorem bl_range {w w' : World} {c : Nat} {cs : List Value} {t : TypeId} (h : Blk w c cs t) (hb : Below w.heap.size w w') : w'.rangeAt c 0 cs := (h.same (hb.block _ h.lt)).range
theorem bl_there {w w' : World} {c : Nat} {cs : List Value} {t : TypeId} (h : Blk w c cs t) (hb : Below w.heap.size w w') : w'.there c 0 cs.length := (h.same (hb.block _ h.lt)).there _ (Nat.le_refl _)
theorem bl_blk {w w' : World} {c : Nat} {cs : List Value} {t : TypeId} (h : Blk w c cs t) (hb : Below w.heap.size w w') : Blk w' c cs t := h.same (hb.block _ h.lt)
/-- A small number's bytes. -/
def smL (n : UInt8) : List UInt8 := n :: List.replicate 31 0
theorem smL_length (n : UInt8) : (smL n).length = 32 := by simp [smL]
theorem leN_zeros : ∀ k, leN (List.replicate k 0) = 0
  | 0 => rfl
  | k + 1 => by rw [List.replicate_succ, leN, leN_zeros k]; rfl
theorem leN_smL (n : UInt8) : leN (smL n) = n.toNat := by
  unfold smL
  rw [leN, leN_zeros]
  omega
def zer : List UInt8 := List.replicate 32 0
theorem zer_length : zer.length = 32 := by simp [zer]
theorem leN_zer : leN zer = 0 := leN_zeros 32
def zero32 : List Value := ints .u8 (List.replicate 32 0)
section
variable {P : Program}
theorem result_row_tmp {w : World} {fn : Func} {p u : Tmp} {ty : TypeId} (h : fn.results = #[.cell p ty, .tmp u]) (tmps : Array Value) (c : Nat) (tb : TypeId) (cs : List Value) (d : TypeDesc)
    (hp : tmps.getD p undef = .pointer (some ⟨c, 0, none⟩)) (hb : Blk w c cs tb) (hu : P.underlying ty = some d) (hd : d.isRow = true) (hi : (P.info? ty).map (·.size) = some cs.length) :
    (results fn tmps).run P w = .ok (.tuple #[.agg cs.toArray, tmps.getD u undef]) w := by
  rw [results_cell_tmp h, hp]
  simp only [asAddr, Sem.run_pure, Result.andThen_ok, run_loadVar_mid w c 0 ty cs d hb.range hu hd hi]
end

end Go.Proofs.YtcadfccijeodbaaDoor

/- Digits to any base: their number, one digit turned, parts of them, what they are when they are none too great. No program. Each theorem names its own conditions. -/
namespace Go.Proofs.YtcadfccijeodbaaDoor
open Go.RowKit
set_option linter.unusedVariables false
set_option linter.unusedSimpArgs false

/-- The number that digits to the base B are, the lowest first. -/
def gV (B : Int) : List Int → Int
  | [] => 0
  | z :: r => z + B * gV B r
theorem gV_set (B : Int) : ∀ (zs : List Int) (i : Nat) (z : Int), i < zs.length → gV B (zs.set i z) = gV B zs + (z - zs.getD i 0) * B ^ i
  | [], i, z, h => by simp at h
  | a :: r, 0, z, h => by simp [gV]; omega
  | a :: r, i + 1, z, h => by
    have := gV_set B r i z (by simpa using h)
    simp only [List.set_cons_succ, gV, this, List.getD_cons_succ, Int.pow_succ]
    grind
theorem gV_append (B : Int) : ∀ (a b : List Int), gV B (a ++ b) = gV B a + B ^ a.length * gV B b
  | [], b => by simp [gV]
  | z :: r, b => by
    simp only [List.cons_append, gV, gV_append B r b, List.length_cons, Int.pow_succ]
    grind
theorem gV_cut (B : Int) (zs : List Int) (d : Nat) (h : d ≤ zs.length) : gV B zs = gV B (zs.take d) + B ^ d * gV B (zs.drop d) := by
  have := gV_append B (zs.take d) (zs.drop d)
  rw [List.take_append_drop, List.length_take, Nat.min_eq_left h] at this
  exact this
theorem gV_take_succ (B : Int) (zs : List Int) (k : Nat) (h : k < zs.length) : gV B (zs.take (k + 1)) = gV B (zs.take k) + zs.getD k 0 * B ^ k := by
  rw [List.take_succ_eq_append_getElem h, gV_append, List.length_take, Nat.min_eq_left (by omega)]
  simp only [gV, List.getD, List.getElem?_eq_getElem h, Option.getD_some]
  grind
theorem gV_zeros (B : Int) : ∀ (n : Nat), gV B (List.replicate n 0) = 0
  | 0 => rfl
  | n + 1 => by simp [List.replicate_succ, gV, gV_zeros B n]
theorem gV_zero_of (B : Int) : ∀ {zs : List Int}, (∀ i, zs.getD i 0 = 0) → gV B zs = 0
  | [], _ => rfl
  | z :: r, h => by
    have h0 : z = 0 := h 0
    have h1 := gV_zero_of B (zs := r) (fun i => by have := h (i + 1); simpa using this)
    simp [gV, h0, h1]
theorem gV_range {B : Int} (hB : 0 < B) : ∀ {zs : List Int}, (∀ i, i < zs.length → 0 ≤ zs.getD i 0 ∧ zs.getD i 0 < B) → 0 ≤ gV B zs ∧ gV B zs < B ^ zs.length
  | [], _ => by simp [gV]
  | z :: r, h => by
    have h0 : 0 ≤ z ∧ z < B := h 0 (by simp)
    have h1 := gV_range hB (zs := r) (fun i hi => by have := h (i + 1) (by simpa using hi); simpa using this)
    obtain ⟨p1, p2⟩ := h1
    have q1 : 0 ≤ B * gV B r := Int.mul_nonneg (by omega) p1
    have q2 : B * (gV B r + 1) ≤ B * B ^ r.length := Int.mul_le_mul_of_nonneg_left (by omega) (by omega)
    rw [Int.mul_add, Int.mul_one] at q2
    simp only [gV, List.length_cons, Int.pow_succ]
    rw [Int.mul_comm (B ^ r.length) B]
    omega
theorem gV_inj {B : Int} (hB : 0 < B) : ∀ {xs ys : List Int}, xs.length = ys.length → (∀ i, i < xs.length → 0 ≤ xs.getD i 0 ∧ xs.getD i 0 < B) → (∀ i, i < ys.length → 0 ≤ ys.getD i 0 ∧ ys.getD i 0 < B) → gV B xs = gV B ys → xs = ys
  | [], [], _, _, _, _ => rfl
  | [], _ :: _, h, _, _, _ => by simp at h
  | _ :: _, [], h, _, _, _ => by simp at h
  | x :: r, y :: s, hl, h1, h2, he => by
    have a1 : 0 ≤ x ∧ x < B := h1 0 (by simp)
    have a2 : 0 ≤ y ∧ y < B := h2 0 (by simp)
    simp only [gV] at he
    have e1 : (x + B * gV B r) % B = x := by rw [Int.add_mul_emod_self_left, Int.emod_eq_of_lt a1.1 a1.2]
    have e2 : (y + B * gV B s) % B = y := by rw [Int.add_mul_emod_self_left, Int.emod_eq_of_lt a2.1 a2.2]
    have e3 : x = y := by rw [← e1, ← e2, he]
    subst e3
    have e4 : gV B r = gV B s := Int.eq_of_mul_eq_mul_left (by omega : B ≠ 0) (by omega)
    rw [gV_inj hB (by simpa using hl) (fun i hi => by have := h1 (i + 1) (by simpa using hi); simpa using this) (fun i hi => by have := h2 (i + 1) (by simpa using hi); simpa using this) e4]

theorem getD_eq {zs : List Int} {i : Nat} (h : i < zs.length) : zs.getD i 0 = zs[i] := by simp [List.getD, h]
theorem getD_out {zs : List Int} {i : Nat} (h : zs.length ≤ i) : zs.getD i 0 = 0 := by simp [List.getD, h]
theorem getD_take {zs : List Int} {i d : Nat} (h : i < d) : (zs.take d).getD i 0 = zs.getD i 0 := by simp [List.getD, List.getElem?_take, h]
theorem getD_drop {zs : List Int} {i d : Nat} : (zs.drop d).getD i 0 = zs.getD (d + i) 0 := by simp [List.getD, List.getElem?_drop]
theorem ext_getD {xs ys : List Int} (hl : xs.length = ys.length) (h : ∀ i, i < xs.length → xs.getD i 0 = ys.getD i 0) : xs = ys := by
  apply List.ext_getElem hl
  intro i h1 h2
  have := h i h1
  rwa [getD_eq h1, getD_eq h2] at this
theorem take_eq {xs ys : List Int} {d : Nat} (hl : xs.length = ys.length) (hd : d ≤ xs.length) (h : ∀ i, i < d → xs.getD i 0 = ys.getD i 0) : xs.take d = ys.take d := by
  apply ext_getD (by simp [hl])
  intro i hi
  have hi2 : i < d := by simp at hi; omega
  rw [getD_take hi2, getD_take hi2, h i hi2]
/-- The lowest digits of what is no digit too great: the rest of the number is the upper digits'. -/
theorem gV_div {B : Int} (hB : 0 < B) {zs : List Int} {d : Nat} (hd : d ≤ zs.length) (h : ∀ i, i < d → 0 ≤ zs.getD i 0 ∧ zs.getD i 0 < B) : gV B zs / B ^ d = gV B (zs.drop d) := by
  have hr := gV_range hB (zs := zs.take d) (fun i hi => by
    have hi2 : i < d := by simp at hi; omega
    rw [getD_take hi2]
    exact h i hi2)
  rw [List.length_take, Nat.min_eq_left hd] at hr
  have hp : 0 < B ^ d := Int.pow_pos hB
  rw [gV_cut B zs d hd, Int.add_mul_ediv_left _ _ (by omega), Int.ediv_eq_zero_of_lt hr.1 hr.2, Int.zero_add]

theorem Blk.seti {w : World} {c : Nat} {k : IntKind} {zs : List Int} {t : TypeId} (h : Blk w c (ints k zs) t) (i : Nat) (z : Int) : Blk (w.setCell ⟨c, i, none⟩ (.int k z)) c (ints k (zs.set i z)) t := by
  rw [← ints_set]
  exact h.set i _
/-- The bytes of a number, as digits. -/
def dig (n x : Nat) : List Int := (bytesN n x).map fun b => (b.toNat : Int)
theorem dig_length (n x : Nat) : (dig n x).length = n := by simp [dig, bytesN_length]
theorem gV_bytes : ∀ (l : List UInt8), gV 256 (l.map fun b => (b.toNat : Int)) = (leN l : Nat)
  | [] => rfl
  | b :: r => by
    simp only [List.map_cons, gV, gV_bytes r, leN]
    omega
theorem gV_dig (n x : Nat) : gV 256 (dig n x) = ((x % 256 ^ n : Nat) : Int) := by
  unfold dig
  rw [gV_bytes, leN_bytesN]
theorem byte_digits (l : List UInt8) : ∀ i, i < (l.map fun b => (b.toNat : Int)).length → 0 ≤ (l.map fun b => (b.toNat : Int)).getD i 0 ∧ (l.map fun b => (b.toNat : Int)).getD i 0 < 256 := by
  intro i hi
  have hi2 : i < l.length := by simpa using hi
  rw [getD_eq hi, List.getElem_map]
  have := l[i].toNat_lt
  omega
theorem dig_digits (n x : Nat) : ∀ i, i < n → 0 ≤ (dig n x).getD i 0 ∧ (dig n x).getD i 0 < 256 := by
  intro i hi
  exact byte_digits (bytesN n x) i (by simp [bytesN_length, hi])
/-- Digits that are none too great are those of their number. -/
theorem dig_of {zs : List Int} {n x : Nat} (hl : zs.length = n) (h : ∀ i, i < n → 0 ≤ zs.getD i 0 ∧ zs.getD i 0 < 256) (hv : gV 256 zs = (x : Int)) : zs = dig n x := by
  have hr := gV_range (B := 256) (by omega) (zs := zs) (fun i hi => h i (by omega))
  have hx : x < 256 ^ n := by
    have h1 := hr.2
    rw [hv, hl] at h1
    have e : ((256 : Int) ^ n) = ((256 ^ n : Nat) : Int) := by simp
    rw [e] at h1
    omega
  refine gV_inj (B := 256) (by omega) (by rw [dig_length, hl]) (fun i hi => h i (by omega)) (fun i hi => dig_digits n x i (by rwa [dig_length] at hi)) ?_
  rw [gV_dig, Nat.mod_eq_of_lt hx, hv]

theorem bytesN_getD : ∀ (n x i : Nat), i < n → ((bytesN n x).getD i 0).toNat = x / 256 ^ i % 256
  | 0, _, _, h => by omega
  | n + 1, x, 0, _ => by
    simp only [bytesN, List.getD_cons_zero, Nat.pow_zero, Nat.div_one]
    rw [UInt8.toNat_ofNat']
    omega
  | n + 1, x, i + 1, h => by
    simp only [bytesN, List.getD_cons_succ]
    rw [bytesN_getD n (x / 256) i (by omega), Nat.div_div_eq_div_mul, Nat.pow_succ, Nat.mul_comm 256]

/-- The first k bytes of l, and noughts behind. -/
def fill (n : Nat) (l : List UInt8) (k : Nat) : List UInt8 := l.take k ++ List.replicate (n - k) 0
theorem fill_zero (n : Nat) (l : List UInt8) : fill n l 0 = List.replicate n 0 := by simp [fill]
theorem fill_full {n : Nat} {l : List UInt8} (h : l.length = n) : fill n l n = l := by simp [fill, ← h]
theorem fill_length {n k : Nat} {l : List UInt8} (h : l.length = n) (hk : k ≤ n) : (fill n l k).length = n := by simp [fill]; omega
theorem fill_set {n k : Nat} {l : List UInt8} (h : l.length = n) (hk : k < n) : (fill n l k).set k (l.getD k 0) = fill n l (k + 1) := by
  unfold fill
  have e1 : (l.take k).length = k := by simp; omega
  have e2 : n - k = (n - (k + 1)) + 1 := by omega
  have hk2 : k < l.length := by omega
  have e3 : l.getD k 0 = l[k] := by simp [List.getD, hk2]
  rw [List.set_append_right _ _ (by omega), e1, Nat.sub_self, e2, List.replicate_succ, List.set_cons_zero, e3, List.take_succ_eq_append_getElem hk2, List.append_assoc]
  rfl
theorem fill_set_val {n k : Nat} {l : List UInt8} (h : l.length = n) (hk : k < n) {z : Int} (hz : z = ((l.getD k 0).toNat : Int)) : ((fill n l k).map bval).set k (.int .u8 z) = (fill n l (k + 1)).map bval := by
  subst hz
  have : Value.int .u8 ((l.getD k 0).toNat : Int) = bval (l.getD k 0) := rfl
  rw [this, ← List.map_set, fill_set h hk]
theorem fill_start (n : Nat) (l : List UInt8) : (fill n l 0).map bval = ints .u8 (List.replicate n 0) := by
  rw [fill_zero]
  simp [ints, bval]

theorem or_i64 (a b : Nat) (ha : a < 9223372036854775808) (hb : b < 9223372036854775808) : bits .or .i64 (a : Int) (b : Int) = ((a ||| b : Nat) : Int) := by
  have e1 : (BitVec.ofInt 64 (a : Int)).toNat = a := by rw [BitVec.toNat_ofInt]; omega
  have e2 : (BitVec.ofInt 64 (b : Int)).toNat = b := by rw [BitVec.toNat_ofInt]; omega
  show IntKind.i64.wrap ((BitVec.ofInt 64 (a : Int) ||| BitVec.ofInt 64 (b : Int)).toNat : Nat) = _
  have e3 : a ||| b < 2 ^ 63 := Nat.or_lt_two_pow ha hb
  rw [BitVec.toNat_or, e1, e2, IntKind.wrap_i64]
  omega
theorem and_i64_255 (a : Int) (h1 : -9223372036854775808 ≤ a) (h2 : a ≤ 9223372036854775807) : bits .and .i64 a 255 = a % 256 := by
  have h : (BitVec.ofInt 64 255).toNat = 2 ^ 8 - 1 := by decide
  have key : (BitVec.ofInt 64 a &&& BitVec.ofInt 64 255).toNat = (a % ((2 ^ 64 : Nat) : Int)).toNat % 2 ^ 8 := by
    rw [BitVec.toNat_and, BitVec.toNat_ofInt, h, Nat.and_two_pow_sub_one_eq_mod]
  show IntKind.i64.wrap ((BitVec.ofInt 64 a &&& BitVec.ofInt 64 255).toNat : Nat) = _
  rw [key, IntKind.wrap_i64]
  omega
theorem and_i64_1 (a : Int) (h1 : -9223372036854775808 ≤ a) (h2 : a ≤ 9223372036854775807) : bits .and .i64 a 1 = a % 2 := by
  have h : (BitVec.ofInt 64 1).toNat = 2 ^ 1 - 1 := by decide
  have key : (BitVec.ofInt 64 a &&& BitVec.ofInt 64 1).toNat = (a % ((2 ^ 64 : Nat) : Int)).toNat % 2 ^ 1 := by
    rw [BitVec.toNat_and, BitVec.toNat_ofInt, h, Nat.and_two_pow_sub_one_eq_mod]
  show IntKind.i64.wrap ((BitVec.ofInt 64 a &&& BitVec.ofInt 64 1).toNat : Nat) = _
  rw [key, IntKind.wrap_i64]
  omega

end Go.Proofs.YtcadfccijeodbaaDoor

/- Words of 32 bits as values: sums, shifts, bits and turns of them as the machine reckons them. No program. Each theorem names its own conditions. -/
namespace Go.Proofs.YtcadfccijeodbaaDoor
open Go.RowKit
set_option linter.unusedVariables false
set_option linter.unusedSimpArgs false

abbrev W32 := BitVec 32
/-- A word as a whole number. -/
def wi (b : W32) : Int := (b.toNat : Int)
theorem wi_range (b : W32) : 0 ≤ wi b ∧ wi b ≤ 4294967295 := by
  have := b.isLt
  unfold wi
  omega
theorem ofInt_wi (b : W32) : BitVec.ofInt 32 (wi b) = b := by
  unfold wi
  apply BitVec.eq_of_toNat_eq
  have := b.isLt
  rw [BitVec.toNat_ofInt]
  omega
theorem wrap_nat (n : Nat) : IntKind.u32.wrap (n : Int) = ((n % 4294967296 : Nat) : Int) := by rw [IntKind.wrap_u32]; omega
theorem wi_lit (n : Nat) (h : n < 4294967296) : wi (BitVec.ofNat 32 n) = (n : Int) := by
  unfold wi
  rw [BitVec.toNat_ofNat]
  omega
theorem wi_add (a b : W32) : IntKind.u32.wrap (wi a + wi b) = wi (a + b) := by
  unfold wi
  rw [← Int.natCast_add, wrap_nat, BitVec.toNat_add]
theorem wi_and (a b : W32) : bits .and .u32 (wi a) (wi b) = wi (a &&& b) := by
  show IntKind.u32.wrap ((BitVec.ofInt 32 (wi a) &&& BitVec.ofInt 32 (wi b)).toNat : Nat) = _
  rw [ofInt_wi, ofInt_wi, wrap_nat, Nat.mod_eq_of_lt (a &&& b).isLt]
  rfl
theorem wi_or (a b : W32) : bits .or .u32 (wi a) (wi b) = wi (a ||| b) := by
  show IntKind.u32.wrap ((BitVec.ofInt 32 (wi a) ||| BitVec.ofInt 32 (wi b)).toNat : Nat) = _
  rw [ofInt_wi, ofInt_wi, wrap_nat, Nat.mod_eq_of_lt (a ||| b).isLt]
  rfl
theorem wi_xor (a b : W32) : bits .xor .u32 (wi a) (wi b) = wi (a ^^^ b) := by
  show IntKind.u32.wrap ((BitVec.ofInt 32 (wi a) ^^^ BitVec.ofInt 32 (wi b)).toNat : Nat) = _
  rw [ofInt_wi, ofInt_wi, wrap_nat, Nat.mod_eq_of_lt (a ^^^ b).isLt]
  rfl
theorem wi_shr (a : W32) (n : Nat) : wi a / 2 ^ n = wi (a >>> n) := by
  unfold wi
  rw [BitVec.toNat_ushiftRight, Nat.shiftRight_eq_div_pow]
  simp
theorem wi_shl (a : W32) (n : Nat) : IntKind.u32.wrap (wi a * 2 ^ n) = wi (a <<< n) := by
  unfold wi
  have e : ((a.toNat : Int) * 2 ^ n) = ((a.toNat * 2 ^ n : Nat) : Int) := by simp
  rw [e, wrap_nat, BitVec.toNat_shiftLeft, Nat.shiftLeft_eq]
/-- Turned to the right. -/
def rotr (a : W32) (n : Nat) : W32 := a >>> n ||| a <<< (32 - n)
theorem wi_rotr (a : W32) (n : Nat) : bits .or .u32 (wi a / 2 ^ n) (IntKind.u32.wrap (wi a * 2 ^ (32 - n))) = wi (rotr a n) := by
  rw [wi_shr, wi_shl, wi_or]
  rfl

/-- Words' cells. -/
def ws (l : List W32) : List Int := l.map wi
theorem ws_length (l : List W32) : (ws l).length = l.length := by simp [ws]
theorem ws_getD (l : List W32) (i : Nat) : (ws l).getD i 0 = wi (l.getD i 0#32) := by
  unfold ws
  simp only [List.getD, List.getElem?_map]
  cases l[i]? <;> simp [wi]
theorem ws_set (l : List W32) (i : Nat) (b : W32) : (ws l).set i (wi b) = ws (l.set i b) := by
  unfold ws
  rw [List.map_set]
theorem ws_zeros (n : Nat) : ws (List.replicate n 0#32) = List.replicate n 0 := by simp [ws, wi]

end Go.Proofs.YtcadfccijeodbaaDoor

/- The hash of 32-bit words, as functions on lists: the schedule, the rounds, the blocks, the padding. No program. Each theorem names its own conditions. -/
namespace Go.Proofs.YtcadfccijeodbaaDoor
open Go.RowKit
set_option linter.unusedVariables false
set_option linter.unusedSimpArgs false

/-- Four bytes as a word, the highest first. -/
def beW (m : List UInt8) (k : Nat) : W32 := BitVec.ofNat 32 (16777216 * (m.getD k 0).toNat + 65536 * (m.getD (k + 1) 0).toNat + 256 * (m.getD (k + 2) 0).toNat + (m.getD (k + 3) 0).toNat)
/-- The first k words of a block that begins at the byte 'start'. -/
def wTop (m : List UInt8) (start : Nat) : Nat → List W32
  | 0 => List.replicate 64 0#32
  | k + 1 => (wTop m start k).set k (beW m (start + 4 * k))
def sg0 (x : W32) : W32 := rotr x 7 ^^^ rotr x 18 ^^^ x >>> 3
def sg1 (x : W32) : W32 := rotr x 17 ^^^ rotr x 19 ^^^ x >>> 10
def wNext (l : List W32) (i : Nat) : W32 := l.getD (i - 16) 0#32 + sg0 (l.getD (i - 15) 0#32) + l.getD (i - 7) 0#32 + sg1 (l.getD (i - 2) 0#32)
/-- The schedule, n words behind the sixteenth. -/
def wSch (m : List UInt8) (start : Nat) : Nat → List W32
  | 0 => wTop m start 16
  | n + 1 => (wSch m start n).set (16 + n) (wNext (wSch m start n) (16 + n))
theorem wTop_length (m : List UInt8) (start : Nat) : ∀ k, (wTop m start k).length = 64
  | 0 => by simp [wTop]
  | k + 1 => by simp [wTop, wTop_length m start k]
theorem wSch_length (m : List UInt8) (start : Nat) : ∀ k, (wSch m start k).length = 64
  | 0 => wTop_length m start 16
  | k + 1 => by simp [wSch, wSch_length m start k]
/-- One round, of eight words. -/
def rnd (v : List W32) (k w : W32) : List W32 :=
  let e := v.getD 4 0#32
  let a := v.getD 0 0#32
  let t := v.getD 7 0#32 + (rotr e 6 ^^^ rotr e 11 ^^^ rotr e 25) + (e &&& v.getD 5 0#32 ^^^ ~~~e &&& v.getD 6 0#32) + k + w
  let u := (rotr a 2 ^^^ rotr a 13 ^^^ rotr a 22) + (a &&& v.getD 1 0#32 ^^^ a &&& v.getD 2 0#32 ^^^ v.getD 1 0#32 &&& v.getD 2 0#32)
  [t + u, a, v.getD 1 0#32, v.getD 2 0#32, v.getD 3 0#32 + t, e, v.getD 5 0#32, v.getD 6 0#32]
def K256 : List W32 := [0x428a2f98, 0x71374491, 0xb5c0fbcf, 0xe9b5dba5, 0x3956c25b, 0x59f111f1, 0x923f82a4, 0xab1c5ed5,
  0xd807aa98, 0x12835b01, 0x243185be, 0x550c7dc3, 0x72be5d74, 0x80deb1fe, 0x9bdc06a7, 0xc19bf174,
  0xe49b69c1, 0xefbe4786, 0x0fc19dc6, 0x240ca1cc, 0x2de92c6f, 0x4a7484aa, 0x5cb0a9dc, 0x76f988da,
  0x983e5152, 0xa831c66d, 0xb00327c8, 0xbf597fc7, 0xc6e00bf3, 0xd5a79147, 0x06ca6351, 0x14292967,
  0x27b70a85, 0x2e1b2138, 0x4d2c6dfc, 0x53380d13, 0x650a7354, 0x766a0abb, 0x81c2c92e, 0x92722c85,
  0xa2bfe8a1, 0xa81a664b, 0xc24b8b70, 0xc76c51a3, 0xd192e819, 0xd6990624, 0xf40e3585, 0x106aa070,
  0x19a4c116, 0x1e376c08, 0x2748774c, 0x34b0bcb5, 0x391c0cb3, 0x4ed8aa4a, 0x5b9cca4f, 0x682e6ff3,
  0x748f82ee, 0x78a5636f, 0x84c87814, 0x8cc70208, 0x90befffa, 0xa4506ceb, 0xbef9a3f7, 0xc67178f2]
def H256 : List W32 := [0x6a09e667, 0xbb67ae85, 0x3c6ef372, 0xa54ff53a, 0x510e527f, 0x9b05688c, 0x1f83d9ab, 0x5be0cd19]
def vRun (h w : List W32) : Nat → List W32
  | 0 => h
  | i + 1 => rnd (vRun h w i) (K256.getD i 0#32) (w.getD i 0#32)
theorem vRun_length (h w : List W32) (hh : h.length = 8) : ∀ i, (vRun h w i).length = 8
  | 0 => hh
  | i + 1 => rfl
/-- The first k words of the sum of both. -/
def hAdd (h v : List W32) : Nat → List W32
  | 0 => h
  | k + 1 => (hAdd h v k).set k ((hAdd h v k).getD k 0#32 + v.getD k 0#32)
theorem hAdd_length (h v : List W32) : ∀ k, (hAdd h v k).length = h.length
  | 0 => rfl
  | k + 1 => by simp [hAdd, hAdd_length h v k]
/-- n blocks. -/
def hRun (m : List UInt8) : Nat → List W32
  | 0 => H256
  | n + 1 => hAdd (hRun m n) (vRun (hRun m n) (wSch m (64 * n) 48) 64) 8
theorem hRun_length (m : List UInt8) : ∀ n, (hRun m n).length = 8
  | 0 => rfl
  | n + 1 => by rw [hRun, hAdd_length, hRun_length m n]

/-- How many noughts lie behind the byte 128. -/
def padN (n : Nat) : Nat := (119 - n % 64) % 64
/-- A number's bytes, the highest first. -/
def beB : Nat → Nat → List UInt8
  | 0, _ => []
  | k + 1, n => UInt8.ofNat (n / 256 ^ k % 256) :: beB k n
def padded (b : List UInt8) : List UInt8 := b ++ [128] ++ List.replicate (padN b.length) 0 ++ beB 8 (8 * b.length)
theorem beB_length : ∀ k n, (beB k n).length = k
  | 0, _ => rfl
  | k + 1, n => by simp [beB, beB_length k n]
theorem padded_length (b : List UInt8) : (padded b).length = 64 * ((b.length + 72) / 64) := by
  simp only [padded, padN, List.length_append, List.length_replicate, beB_length, List.length_cons, List.length_nil]
  omega
/-- A word's four bytes, the highest first. -/
def outB (h : List W32) : List UInt8 := (List.range 32).map fun i => UInt8.ofNat ((h.getD (i / 4) 0#32).toNat / 2 ^ (24 - 8 * (i % 4)) % 256)
theorem outB_length (h : List W32) : (outB h).length = 32 := by simp [outB]
def sha256 (b : List UInt8) : List UInt8 := outB (hRun (padded b) ((b.length + 72) / 64))
theorem sha256_length (b : List UInt8) : (sha256 b).length = 32 := outB_length _
theorem sha256_abc : sha256 [97, 98, 99] = [0xba, 0x78, 0x16, 0xbf, 0x8f, 0x01, 0xcf, 0xea, 0x41, 0x41, 0x40, 0xde, 0x5d, 0xae, 0x22, 0x23, 0xb0, 0x03, 0x61, 0xa3, 0x96, 0x17, 0x7a, 0x9c, 0xb4, 0x10, 0xff, 0x61, 0xf2, 0x00, 0x15, 0xad] := by decide +kernel

end Go.Proofs.YtcadfccijeodbaaDoor

/- The walks of package sha's turns of a word. Each theorem names its own conditions. -/
namespace Go.Proofs.YtcadfccijeodbaaDoor
open Go.RowKit
set_option linter.unusedVariables false
set_option linter.unusedSimpArgs false

theorem and_u64_31 (n : Nat) (h1 : 0 < n) (h2 : n < 32) : bits .and .u64 (IntKind.u64.wrap (-(n : Int))) 31 = ((32 - n : Nat) : Int) := by
  have h : (BitVec.ofInt 64 31).toNat = 2 ^ 5 - 1 := by decide
  have key : (BitVec.ofInt 64 (IntKind.u64.wrap (-(n : Int))) &&& BitVec.ofInt 64 31).toNat = ((IntKind.u64.wrap (-(n : Int))) % ((2 ^ 64 : Nat) : Int)).toNat % 2 ^ 5 := by
    rw [BitVec.toNat_and, BitVec.toNat_ofInt, h, Nat.and_two_pow_sub_one_eq_mod]
  show IntKind.u64.wrap ((BitVec.ofInt 64 (IntKind.u64.wrap (-(n : Int))) &&& BitVec.ofInt 64 31).toNat : Nat) = _
  rw [key, IntKind.wrap_u64, IntKind.wrap_u64]
  omega
theorem sha_wi_rotl (a : W32) (n : Nat) : bits .or .u32 (IntKind.u32.wrap (wi a * 2 ^ (32 - n))) (wi a / 2 ^ n) = wi (rotr a n) := by
  rw [wi_shr, wi_shl, wi_or, BitVec.or_comm]
  rfl

set_option maxHeartbeats 1000000 in
theorem rotl_any (x : W32) (n : Nat) (h1 : 0 < n) (h2 : n < 32) (w : World) : Calls Tryd.prog 43 #[.int .u32 (wi x), .int .i64 (-(n : Int))] w fun e w' => e = .returned (.int .u32 (wi (rotr x n))) ∧ w = w' := by
  have HX := Lib.hid (sha_wi_rotl x n)
  have hr := wi_range x
  have ha := and_u64_31 n h1 h2
  have n0 : 32 - ((32 - n : Nat) : Int) = (n : Int) := by omega
  have n1 : ((32 - n : Nat) : Int) < 32 := by omega
  generalize wi x = z at *
  generalize 32 - n = m at *
  have hw : IntKind.u64.wrap (32 - (m : Int)) = (n : Int) := by rw [n0, IntKind.wrap_u64]; omega
  go_enter Tryd.func43, Tryd.ntmps43
  go_wp2_with fail
  go_ret
  exact ⟨congrArg (fun v => Ending.returned (.int .u32 v)) (by rw [← HX.out, IntKind.wrap_u32]), rfl⟩

set_option maxHeartbeats 1000000 in
theorem turned_any (x : W32) (n : Nat) (h1 : 0 < n) (h2 : n < 32) (w : World) : Calls Tryd.prog 42 #[.int .u32 (wi x), .int .i64 (n : Int)] w fun e w' => e = .returned (.int .u32 (wi (rotr x n))) ∧ w = w' := by
  have HR := Lib.hid (rotl_any x n h1 h2 w)
  generalize wi x = z at *
  generalize wi (rotr x n) = r at *
  have hw : IntKind.i64.wrap (-(n : Int)) = -(n : Int) := IntWalk.i64_in _ (by omega)
  go_enter Tryd.func42, Tryd.ntmps42
  go_wp2_with fail
  refine HR.out.mono ?_
  rintro e w' ⟨rfl, rfl⟩
  go_wp2_with fail
  go_ret
  exact ⟨rfl, rfl⟩

set_option maxHeartbeats 1000000 in
theorem sha_sum_any (x : W32) (a b c : Nat) (a1 : 0 < a) (a2 : a < 32) (b1 : 0 < b) (b2 : b < 32) (c1 : 0 < c) (c2 : c < 32) (w : World) :
    Calls Tryd.prog 37 #[.int .u32 (wi x), .int .i64 (a : Int), .int .i64 (b : Int), .int .i64 (c : Int)] w fun e w' => e = .returned (.int .u32 (wi (rotr x a ^^^ rotr x b ^^^ rotr x c))) ∧ w = w' := by
  have HA := Lib.hid (fun w => turned_any x a a1 a2 w)
  have HB := Lib.hid (fun w => turned_any x b b1 b2 w)
  have HC := Lib.hid (fun w => turned_any x c c1 c2 w)
  have hx : wi (rotr x a ^^^ rotr x b ^^^ rotr x c) = bits .xor .u32 (bits .xor .u32 (wi (rotr x a)) (wi (rotr x b))) (wi (rotr x c)) := by rw [wi_xor, wi_xor]
  rw [hx]
  generalize wi x = z at *
  generalize wi (rotr x a) = ra at *
  generalize wi (rotr x b) = rb at *
  generalize wi (rotr x c) = rc at *
  clear hx
  go_enter Tryd.func37, Tryd.ntmps37
  go_wp2_with fail
  refine (HA.out _).mono ?_
  rintro e w' ⟨rfl, rfl⟩
  go_wp2_with fail
  refine (HB.out _).mono ?_
  rintro e w' ⟨rfl, rfl⟩
  go_wp2_with fail
  refine (HC.out _).mono ?_
  rintro e w' ⟨rfl, rfl⟩
  go_wp2_with fail
  go_ret
  exact ⟨rfl, rfl⟩

theorem sum_ext (x : W32) (a b c : Nat) (a1 : 0 < a) (a2 : a < 32) (b1 : 0 < b) (b2 : b < 32) (c1 : 0 < c) (c2 : c < 32) (w : World) :
    Calls Tryd.prog 37 #[.int .u32 (wi x), .int .i64 (a : Int), .int .i64 (b : Int), .int .i64 (c : Int)] w fun e w' => e = .returned (.int .u32 (wi (rotr x a ^^^ rotr x b ^^^ rotr x c))) ∧ Below w.heap.size w w' :=
  (sha_sum_any x a b c a1 a2 b1 b2 c1 c2 w).mono fun _ _ h => ⟨h.1, by obtain ⟨_, rfl⟩ := h; exact Below.refl _ _⟩

end Go.Proofs.YtcadfccijeodbaaDoor

/- The walks of package sha's words as bytes. Each theorem names its own conditions. -/
namespace Go.Proofs.YtcadfccijeodbaaDoor
open Go.RowKit
set_option linter.unusedVariables false
set_option linter.unusedSimpArgs false

theorem or_u32 (a b : Nat) (ha : a < 4294967296) (hb : b < 4294967296) : bits .or .u32 (a : Int) (b : Int) = ((a ||| b : Nat) : Int) := by
  have e1 : (BitVec.ofInt 32 (a : Int)).toNat = a := by rw [BitVec.toNat_ofInt]; omega
  have e2 : (BitVec.ofInt 32 (b : Int)).toNat = b := by rw [BitVec.toNat_ofInt]; omega
  show IntKind.u32.wrap ((BitVec.ofInt 32 (a : Int) ||| BitVec.ofInt 32 (b : Int)).toNat : Nat) = _
  have e3 : a ||| b < 2 ^ 32 := Nat.or_lt_two_pow ha hb
  rw [BitVec.toNat_or, e1, e2, wrap_nat, Nat.mod_eq_of_lt e3]
/-- Four bytes laid together. -/
theorem or4 (x0 x1 x2 x3 : Nat) (h0 : x0 < 256) (h1 : x1 < 256) (h2 : x2 < 256) (h3 : x3 < 256) :
    bits .or .u32 (bits .or .u32 (bits .or .u32 ((x0 : Int) * 16777216) ((x1 : Int) * 65536)) ((x2 : Int) * 256)) (x3 : Int) = wi (BitVec.ofNat 32 (16777216 * x0 + 65536 * x1 + 256 * x2 + x3)) := by
  have a0 : (x0 : Int) * 16777216 = ((16777216 * x0 : Nat) : Int) := by omega
  have a1 : (x1 : Int) * 65536 = ((65536 * x1 : Nat) : Int) := by omega
  have a2 : (x2 : Int) * 256 = ((256 * x2 : Nat) : Int) := by omega
  have b1 : 16777216 * x0 ||| 65536 * x1 = 16777216 * x0 + 65536 * x1 := or_sum 24 (65536 * x1) x0 (by omega)
  have b2 : 16777216 * x0 + 65536 * x1 ||| 256 * x2 = 16777216 * x0 + 65536 * x1 + 256 * x2 := by
    have h := or_sum 16 (256 * x2) (256 * x0 + x1) (by omega)
    have e : 2 ^ 16 * (256 * x0 + x1) = 16777216 * x0 + 65536 * x1 := by omega
    rwa [e] at h
  have b3 : 16777216 * x0 + 65536 * x1 + 256 * x2 ||| x3 = 16777216 * x0 + 65536 * x1 + 256 * x2 + x3 := by
    have h := or_sum 8 x3 (65536 * x0 + 256 * x1 + x2) (by omega)
    have e : 2 ^ 8 * (65536 * x0 + 256 * x1 + x2) = 16777216 * x0 + 65536 * x1 + 256 * x2 := by omega
    rwa [e] at h
  rw [a0, a1, a2, or_u32 _ _ (by omega) (by omega), b1, or_u32 _ _ (by omega) (by omega), b2, or_u32 _ _ (by omega) (by omega), b3, wi_lit _ (by omega)]

set_option maxHeartbeats 2000000 in
/-- A word is read off four bytes of a block. -/
theorem sha_word_any (c off len cap : Nat) (cs : List UInt8) (t : TypeId) (w : World) (hb : Blk w c (cs.map bval) t) (hl : off + 4 ≤ cs.length) (h4 : 4 ≤ len) :
    Calls Tryd.prog 41 #[.slice (some ⟨c, off, none⟩) len cap] w fun e w' => e = .returned (.int .u32 (wi (beW cs off))) ∧ w' = w.drew := by
  have cc : ∀ j, j ≤ 3 → w.cell? ⟨c, off + j, none⟩ = some (.int .u8 ((cs.getD (off + j) 0).toNat : Int)) := fun j hj => by
    rw [hb.cell, bval_get (by omega)]
  have c0 := cc 0 (by omega)
  have c1 := cc 1 (by omega)
  have c2 := cc 2 (by omega)
  have c3 := cc 3 (by omega)
  simp only [Nat.add_zero] at c0
  have d0 := UInt8.toNat_lt (cs.getD off 0)
  have d1 := UInt8.toNat_lt (cs.getD (off + 1) 0)
  have d2 := UInt8.toNat_lt (cs.getD (off + 2) 0)
  have d3 := UInt8.toNat_lt (cs.getD (off + 3) 0)
  have HBE : Hid (beW cs off = BitVec.ofNat 32 (16777216 * (cs.getD off 0).toNat + 65536 * (cs.getD (off + 1) 0).toNat + 256 * (cs.getD (off + 2) 0).toNat + (cs.getD (off + 3) 0).toNat)) := Lib.hid rfl
  generalize (cs.getD off 0).toNat = x0 at *
  generalize (cs.getD (off + 1) 0).toNat = x1 at *
  generalize (cs.getD (off + 2) 0).toNat = x2 at *
  generalize (cs.getD (off + 3) 0).toNat = x3 at *
  clear cc hb hl
  have i0 : (0 : Int) < (len : Int) ∧ (1 : Int) < (len : Int) ∧ (2 : Int) < (len : Int) ∧ (3 : Int) < (len : Int) := by omega
  obtain ⟨i0, i1, i2, i3⟩ := i0
  go_enter Tryd.func41, Tryd.ntmps41
  go_wp2_with fail
  go_region
  go_wp2_with fail
  go_ret
  exact ⟨by rw [HBE.out, ← or4 x0 x1 x2 x3 d0 d1 d2 d3]; rfl, rfl⟩

/-- A word's four bytes, the highest first, laid over a list from off on. -/
def put4 (cs : List UInt8) (off : Nat) (x : W32) : List UInt8 := (((cs.set off (UInt8.ofNat (x.toNat / 16777216))).set (off + 1) (UInt8.ofNat (x.toNat / 65536))).set (off + 2) (UInt8.ofNat (x.toNat / 256))).set (off + 3) (UInt8.ofNat x.toNat)
theorem put4_length (cs : List UInt8) (off : Nat) (x : W32) : (put4 cs off x).length = cs.length := by simp [put4]
theorem bval_ofNat (n : Nat) : bval (UInt8.ofNat n) = .int .u8 ((n : Int) % 256) := by
  unfold bval
  rw [UInt8.toNat_ofNat']
  congr 1

set_option maxHeartbeats 2000000 in
/-- A word is laid over four bytes of a block. -/
theorem put_any (c off len cap : Nat) (cs : List UInt8) (x : W32) (t : TypeId) (w : World) (hb : Blk w c (cs.map bval) t) (hl : off + 4 ≤ cs.length) (h4 : 4 ≤ len) :
    Calls Tryd.prog 38 #[.slice (some ⟨c, off, none⟩) len cap, .int .u32 (wi x)] w fun e w' => e = .returned (.tuple #[]) ∧ Blk w' c ((put4 cs off x).map bval) t ∧ w.grownBy w' (some c) := by
  have cc : ∀ j, j ≤ 3 → w.cell? ⟨c, off + j, none⟩ = some (.int .u8 ((cs.getD (off + j) 0).toNat : Int)) := fun j hj => by
    rw [hb.cell, bval_get (by omega)]
  have ff : ∀ j, w.frozen? ⟨c, off + j, none⟩ = false := fun j => hb.free _
  have c0 := cc 0 (by omega)
  have c1 := cc 1 (by omega)
  have c2 := cc 2 (by omega)
  have c3 := cc 3 (by omega)
  have f0 := ff 0
  have f1 := ff 1
  have f2 := ff 2
  have f3 := ff 3
  simp only [Nat.add_zero] at c0 f0
  generalize (cs.getD off 0).toNat = x0 at *
  generalize (cs.getD (off + 1) 0).toNat = x1 at *
  generalize (cs.getD (off + 2) 0).toNat = x2 at *
  generalize (cs.getD (off + 3) 0).toNat = x3 at *
  have HB := Lib.hid hb
  have HL := Lib.hid hl
  have hr := wi_range x
  have HX : Hid (wi x = (x.toNat : Int)) := Lib.hid rfl
  clear cc ff hb hl
  have i0 : (0 : Int) < (len : Int) ∧ (1 : Int) < (len : Int) ∧ (2 : Int) < (len : Int) ∧ (3 : Int) < (len : Int) := by omega
  obtain ⟨i0, i1, i2, i3⟩ := i0
  have b0 : bval (UInt8.ofNat (x.toNat / 16777216)) = .int .u8 (wi x / 16777216) := by rw [bval_ofNat]; congr 1; unfold wi; have := x.isLt; omega
  have b1 : bval (UInt8.ofNat (x.toNat / 65536)) = .int .u8 (wi x / 65536 % 256) := by rw [bval_ofNat]; congr 1
  have b2 : bval (UInt8.ofNat (x.toNat / 256)) = .int .u8 (wi x / 256 % 256) := by rw [bval_ofNat]; congr 1
  have b3 : bval (UInt8.ofNat x.toNat) = .int .u8 (wi x % 256) := by rw [bval_ofNat]; congr 1
  have hP : (put4 cs off x).map bval = ((((cs.map bval).set off (.int .u8 (wi x / 16777216))).set (off + 1) (.int .u8 (wi x / 65536 % 256))).set (off + 2) (.int .u8 (wi x / 256 % 256))).set (off + 3) (.int .u8 (wi x % 256)) := by
    unfold put4
    rw [List.map_set, List.map_set, List.map_set, List.map_set, b0, b1, b2, b3]
  have HP := Lib.hid hP
  clear hP b0 b1 b2 b3
  generalize wi x = z at *
  go_enter Tryd.func38, Tryd.ntmps38
  go_wp2_with fail
  refine bodyPost_end (results_none rfl _ _ _) rfl ?_
  refine ⟨rfl, ?_, ?_⟩
  · rw [HP.out]
    exact (((HB.out.set _ _).set _ _).set _ _).set _ _
  · exact grownBy_set (grownBy_set (grownBy_set (grownBy_set (grownBy_refl w _) _ _) _ _) _ _) _ _

end Go.Proofs.YtcadfccijeodbaaDoor

/- Numbers of 32 bytes as values of the program. Each theorem names its own conditions. -/
namespace Go.Proofs.YtcadfccijeodbaaDoor
open Go.RowKit
set_option linter.unusedVariables false
set_option linter.unusedSimpArgs false

theorem Tryd.arr26 : (Tryd.prog.info? 26).map (·.size) = some 32 := by kernel_rfl
theorem num_info : Tryd.prog.info? 5 = some (Tryd.prog.info? 5).get! := by kernel_rfl
theorem num_cells : Tryd.prog.cellsOf 5 = 1 := by kernel_rfl
theorem num_guard : Tryd.prog.eqGuardType Tryd.prog.depth 26 = false := by kernel_rfl
theorem smL_size (n : UInt8) : (Tryd.prog.info? 26).map (·.size) = some ((smL n).map bval).length := by rw [List.length_map, smL_length]; exact Tryd.arr26
theorem zer_size : (Tryd.prog.info? 26).map (·.size) = some (zer.map bval).length := by rw [List.length_map, zer_length]; exact Tryd.arr26
theorem build_zer (w : World) : (Instr.build 26 #[]).run Tryd.prog w = .ok (.agg (zer.map bval).toArray) w := by
  simp [Instr.build, Tryd.zeroValue26]
  rfl
theorem build_one (w : World) : (Instr.build 26 #[(0, .int .u8 1)]).run Tryd.prog w = .ok (.agg ((smL 1).map bval).toArray) w := by
  simp [Instr.build, Tryd.zeroValue26]
  rfl
theorem num_size {l : List UInt8} (h : l.length = 32) : (Tryd.prog.info? 26).map (·.size) = some (l.map bval).length := by rw [List.length_map, h]; exact Tryd.arr26

end Go.Proofs.YtcadfccijeodbaaDoor

/- The walk of package sha's schedule. Each theorem names its own conditions. -/
namespace Go.Proofs.YtcadfccijeodbaaDoor
open Go.RowKit
set_option linter.unusedVariables false
set_option linter.unusedSimpArgs false

theorem Tryd.arr48 : (Tryd.prog.info? 48).map (·.size) = some 8 := by kernel_rfl
theorem Tryd.arr62 : (Tryd.prog.info? 62).map (·.size) = some 64 := by kernel_rfl
theorem Tryd.arr49 : (Tryd.prog.info? 49).map (·.size) = some 8 := by kernel_rfl
theorem Tryd.arr55 : (Tryd.prog.info? 55).map (·.size) = some 64 := by kernel_rfl

theorem boxes3u (w : World) (a b d : List Value) (s t u : TypeId) : Blk (((w.alloc (.cells a.toArray s)).alloc (.cells b.toArray t)).alloc (.cells d.toArray u)) w.heap.size a s ∧ Blk (((w.alloc (.cells a.toArray s)).alloc (.cells b.toArray t)).alloc (.cells d.toArray u)) (w.heap.size + 1) b t ∧
    Blk (((w.alloc (.cells a.toArray s)).alloc (.cells b.toArray t)).alloc (.cells d.toArray u)) (w.heap.size + 1 + 1) d u ∧ Below w.heap.size w (((w.alloc (.cells a.toArray s)).alloc (.cells b.toArray t)).alloc (.cells d.toArray u)) := by
  obtain ⟨h1, h2, h3⟩ := boxes2 w a b s t
  refine ⟨h1.alloc _, h2.alloc _, ?_, Ext.trans h3 (Ext.alloc _ _)⟩
  have := Blk.made ((w.alloc (.cells a.toArray s)).alloc (.cells b.toArray t)) d u
  simpa using this

/-- What is left of an array of bytes, from one of them on. -/
theorem cut_arr {t : TypeId} {n : Nat} {e : TypeId} (ht : Tryd.prog.underlying t = some (.array n e)) (hc : Tryd.prog.cellsOf e = 1) (h : ∀ w, (sizeOf e).run Tryd.prog w = .ok 1 w) (w : World) (A p : Nat) (hp : p < n) :
    (Instr.sliceAt t (.pointer (some ⟨A, 0, none⟩)) (some (.int .i64 (p : Int))) none none).run Tryd.prog w = .ok (.slice (some ⟨A, p, none⟩) (n - p) (n - p)) w := by
  have e1 : Tryd.prog.arrayLen t = n := by unfold Program.arrayLen; rw [ht]
  have e2 : Tryd.prog.elem t = e := by unfold Program.elem; rw [ht]
  rw [run_sliceAt_array_l w t ⟨A, 0, none⟩ (by rw [e1, e2]; exact ht) .i64 (p : Int) (by omega) (by rw [e1]; omega), e2, h, e1]
  simp [slicedAt, Addr.add, show ¬ n = p by omega]
  exact fun h => h.symm

set_option maxRecDepth 100000 in
set_option maxHeartbeats 8000000 in
theorem schedule_any (cs : List UInt8) (w : World) (hl : cs.length = 64) :
    Calls Tryd.prog 36 #[.agg (cs.map bval).toArray] w fun e w' => e = .returned (.agg (ints .u32 (ws (wSch cs 0 48))).toArray) ∧ Below w.heap.size w w' := by
  have HL := Lib.hid hl
  have HB := Lib.hid (boxes3u w (cs.map bval) (ints .u32 (List.replicate 64 0)) (ints .u32 (List.replicate 64 0)) 55 62 62)
  clear hl
  go_enter Tryd.func36, Tryd.ntmps36
  go_wp2_with fail
  obtain ⟨H1, H2, H3, HE⟩ := HB.out
  change Code.wp _ _ _ _ (((w.alloc (.cells (cs.map bval).toArray 55)).alloc (.cells (ints .u32 (List.replicate 64 0)).toArray 62)).alloc (.cells (ints .u32 (List.replicate 64 0)).toArray 62))
  generalize (((w.alloc (.cells (cs.map bval).toArray 55)).alloc (.cells (ints .u32 (List.replicate 64 0)).toArray 62)).alloc (.cells (ints .u32 (List.replicate 64 0)).toArray 62)) = w3 at *
  obtain ⟨A, hA⟩ : ∃ A, A = w.heap.size := ⟨_, rfl⟩
  rw [← hA] at H1 H2 H3 ⊢
  have hA2 : w.heap.size ≤ A := by omega
  have H1 := Lib.hid H1
  have H2 := Lib.hid H2
  have H3 := Lib.hid H3
  have HE := Lib.hid HE
  clear hA HB

  go_loopw [8] (fun iv wr => ∃ (k : Nat), k ≤ 16 ∧ iv = .int .i64 (k : Int) ∧ Blk wr A (cs.map bval) 55 ∧ Blk wr (A + 1) (ints .u32 (List.replicate 64 0)) 62 ∧ Blk wr (A + 1 + 1) (ints .u32 (ws (wTop cs 0 k))) 62 ∧ Ext w wr) (fun iv _ => 16 - (intOf iv).toNat)
  case atStart => exact ⟨0, by omega, rfl, H1.out, H2.out, by rw [wTop, ws_zeros]; exact H3.out, HE.out⟩
  case round =>
    clear H1 H2 H3 HE
    obtain ⟨k, hk, rfl, hb1, hb2, hb3, hbel⟩ := hrel
    have k0 : (0 : Int) ≤ (k : Int) := Int.natCast_nonneg _
    have hwl := wTop_length cs 0 k
    by_cases hlk : k < 16
    · have k1 : (k : Int) < 16 := by omega
      have k64 : (k : Int) < 64 := by omega
      have e1 := hb3.cell k
      rw [ints_get (by rw [ws_length]; omega)] at e1
      have f1 := hb3.free k
      generalize (ws (wTop cs 0 k)).getD k 0 = u at e1
      have hs := cut_arr Tryd.underlying55 num_cells Tryd.sizeOf5 wr A (4 * k) (by omega)
      have e4 : ((4 * k : Nat) : Int) = 4 * (k : Int) := by omega
      rw [e4] at hs
      have HB1 := Lib.hid hb1
      have HB2 := Lib.hid hb2
      have HB3 := Lib.hid hb3
      have HE := Lib.hid hbel
      have HW := Lib.hid (sha_word_any A (4 * k) (64 - 4 * k) (64 - 4 * k) cs 55 wr hb1 (by have := HL.out; omega) (by omega))
      clear hb1 hb2 hb3 hbel e4
      go_wp2_with fail
      refine HW.out.mono ?_
      rintro e w4 ⟨rfl, rfl⟩
      have HST : Hid (ws (wTop cs 0 (k + 1)) = (ws (wTop cs 0 k)).set k (wi (beW cs (4 * k)))) := Lib.hid (by rw [ws_set, wTop]; simp)
      generalize wi (beW cs (4 * k)) = z at *
      go_wp2_with fail
      go_roundw
      case rel =>
        refine ⟨k + 1, by omega, by go_num, (HB1.out.far (by simp <;> omega) _).drewN 1, (HB2.out.far (by simp) _).drewN 1, ?_, (Below.setCell HE.out (by simp <;> omega) _).drew⟩
        rw [HST.out]
        exact (HB3.out.seti k _).drewN 1
      case measure => simp [intOf]; omega
    · have hk16 : k = 16 := by omega
      have hk17 : (k : Int) = 16 := by omega
      rw [hk17]
      clear hk17
      subst hk16
      have hw0 : wTop cs 0 16 = wSch cs 0 0 := rfl
      rw [hw0] at hb3
      have H1 := Lib.hid hb1
      have H2 := Lib.hid hb2
      have H3 := Lib.hid hb3
      have HE := Lib.hid hbel
      clear hb1 hb2 hb3 hbel hwl hw0
      go_wp2_with fail
      obtain ⟨wo, rfl⟩ : ∃ wo : World, wo = wr := ⟨_, rfl⟩
      go_loopw [5] (fun iv wr => ∃ (q : Nat), q ≤ 48 ∧ iv = .int .i64 ((16 + q : Nat) : Int) ∧ Blk wr (A + 1) (ints .u32 (List.replicate 64 0)) 62 ∧ Blk wr (A + 1 + 1) (ints .u32 (ws (wSch cs 0 q))) 62 ∧ Ext w wr) (fun iv _ => 64 - (intOf iv).toNat)
      case atStart => exact ⟨0, by omega, rfl, H2.out, H3.out, HE.out⟩
      case round =>
        clear H1 H2 H3 HE
        obtain ⟨q, hq, rfl, hb2, hb3, hbel⟩ := hrel
        have hwl := wSch_length cs 0 q
        by_cases hlq : q < 48
        · obtain ⟨i, hi⟩ : ∃ i : Nat, i = 16 + q := ⟨_, rfl⟩
          rw [← hi]
          have i0 : (16 : Int) ≤ (i : Int) := by omega
          have i1 : (i : Int) < 64 := by omega
          obtain ⟨j16, hj16⟩ : ∃ j : Nat, j = i - 16 := ⟨_, rfl⟩
          obtain ⟨j15, hj15⟩ : ∃ j : Nat, j = i - 15 := ⟨_, rfl⟩
          obtain ⟨j7, hj7⟩ : ∃ j : Nat, j = i - 7 := ⟨_, rfl⟩
          obtain ⟨j2, hj2⟩ : ∃ j : Nat, j = i - 2 := ⟨_, rfl⟩
          have g16 : (i : Int) - 16 = (j16 : Int) := by omega
          have g15 : (i : Int) - 15 = (j15 : Int) := by omega
          have g7 : (i : Int) - 7 = (j7 : Int) := by omega
          have g2 : (i : Int) - 2 = (j2 : Int) := by omega
          have l16 : (j16 : Int) < 64 := by omega
          have l15 : (j15 : Int) < 64 := by omega
          have l7 : (j7 : Int) < 64 := by omega
          have l2 : (j2 : Int) < 64 := by omega
          have e16 := hb3.cell j16
          rw [ints_get (by rw [ws_length]; omega), ws_getD] at e16
          have e15 := hb3.cell j15
          rw [ints_get (by rw [ws_length]; omega), ws_getD] at e15
          have e7 := hb3.cell j7
          rw [ints_get (by rw [ws_length]; omega), ws_getD] at e7
          have e2 := hb3.cell j2
          rw [ints_get (by rw [ws_length]; omega), ws_getD] at e2
          have e0 := hb3.cell i
          rw [ints_get (by rw [ws_length]; omega), ws_getD] at e0
          have f0 := hb3.free i
          have HST : Hid (wSch cs 0 (q + 1) = (wSch cs 0 q).set i (((wSch cs 0 q).getD j2 0#32 |> sg1) + (wSch cs 0 q).getD j7 0#32 + sg0 ((wSch cs 0 q).getD j15 0#32) + (wSch cs 0 q).getD j16 0#32)) := Lib.hid (by
            rw [hi, hj16, hj15, hj7, hj2, hi, wSch, wNext]
            congr 1
            ac_rfl)
          generalize (wSch cs 0 q).getD j16 0#32 = y16 at *
          generalize (wSch cs 0 q).getD j15 0#32 = y15 at *
          generalize (wSch cs 0 q).getD j7 0#32 = y7 at *
          generalize (wSch cs 0 q).getD j2 0#32 = y2 at *
          generalize (wSch cs 0 q).getD i 0#32 = y0 at *
          have T1 := Lib.hid (fun w => turned_any y15 7 (by omega) (by omega) w)
          have T2 := Lib.hid (fun w => turned_any y15 18 (by omega) (by omega) w)
          have T3 := Lib.hid (fun w => turned_any y2 17 (by omega) (by omega) w)
          have T4 := Lib.hid (fun w => turned_any y2 19 (by omega) (by omega) w)
          have HB2 := Lib.hid hb2
          have HB3 := Lib.hid hb3
          have HE := Lib.hid hbel
          have HI := Lib.hid hi
          clear hb2 hb3 hbel hwl hi hj16 hj15 hj7 hj2 hq
          go_wp2_with fail
          go_region
          go_wp2_with fail
          refine (T1.out _).mono ?_
          rintro e w' ⟨rfl, rfl⟩
          go_wp2_with fail
          refine (T2.out _).mono ?_
          rintro e w' ⟨rfl, rfl⟩
          go_wp2_with fail
          refine (T3.out _).mono ?_
          rintro e w' ⟨rfl, rfl⟩
          go_wp2_with fail
          refine (T4.out _).mono ?_
          rintro e w' ⟨rfl, rfl⟩
          go_wp2_with fail
          have x1 : bits .xor .u32 (bits .xor .u32 (wi (rotr y15 7)) (wi (rotr y15 18))) (wi y15 / 8) = wi (sg0 y15) := by rw [show (8 : Int) = 2 ^ 3 from rfl, wi_shr, wi_xor, wi_xor]; rfl
          have x2 : bits .xor .u32 (bits .xor .u32 (wi (rotr y2 17)) (wi (rotr y2 19))) (wi y2 / 1024) = wi (sg1 y2) := by rw [show (1024 : Int) = 2 ^ 10 from rfl, wi_shr, wi_xor, wi_xor]; rfl
          have HX1 := Lib.hid x1
          have HX2 := Lib.hid x2
          clear x1 x2 T1 T2 T3 T4
          rw [HX1.out, HX2.out]
          have HWS : Hid ((wi (sg1 y2) + wi y7 + wi (sg0 y15) + wi y16) % 4294967296 = wi (sg1 y2 + y7 + sg0 y15 + y16)) := Lib.hid (by rw [← wi_add, ← wi_add, ← wi_add, IntKind.wrap_u32, IntKind.wrap_u32, IntKind.wrap_u32]; omega)
          go_wp2_with fail
          go_region
          go_wp2_with fail
          go_roundw
          case rel =>
            refine ⟨q + 1, by omega, by have := HI.out; subst this; go_num, (HB2.out.far (by simp) _).drewN 2, ?_, (Below.setCell HE.out (by simp <;> omega) _).drew.drew⟩
            rw [HST.out, ← ws_set, ← HWS.out]
            exact (HB3.out.seti i _).drewN 2
          case measure => simp [intOf]; omega
        · have hk48 : q = 48 := by omega
          subst hk48
          have H2 := Lib.hid hb2
          have H3 := Lib.hid hb3
          have HE := Lib.hid hbel
          clear hb2 hb3 hbel hwl
          have HIr : Hid ((Tryd.prog.info? 62).map (·.size) = some (ints .u32 (ws (wSch cs 0 48))).length) := Lib.hid (by rw [ints_length, ws_length, wSch_length]; exact Tryd.arr62)
          have HLE : Hid ((ints .u32 (ws (wSch cs 0 48))).length = (ints .u32 (List.replicate 64 0)).length) := Lib.hid (by rw [ints_length, ws_length, wSch_length, ints_length, List.length_replicate])
          go_wp2_with (first | (refine wpList_load_blk rfl _ _ rfl (A + 1 + 1) rfl _ _ _ _ H3.out Tryd.underlying62 HIr.out ?_) | (refine wpList_store_blk rfl _ _ _ rfl (A + 1) (ints .u32 (ws (wSch cs 0 48))) rfl rfl _ _ H2.out HLE.out HIr.out (ints_one _ _) ?_; intro w4 hb4 hg4))
          refine bodyPost_ret (result_blk rfl _ (A + 1) _ _ _ _ rfl hb4 Tryd.underlying62 HIr.out) rfl ?_
          exact ⟨rfl, ext_grown HE.out hg4 (by omega)⟩

end Go.Proofs.YtcadfccijeodbaaDoor

/- A listed variable's cells are kept by whatever leaves old memory alone. No program. Each theorem names its own conditions. -/
namespace Go.Proofs.YtcadfccijeodbaaDoor
open Go.RowKit
set_option linter.unusedVariables false

theorem glob_ext {w w' : World} {b : Nat} {v : Value} {vs : List Value} (h : w.rangeAt b 0 (v :: vs)) (hb : Ext w w') : w'.rangeAt b 0 (v :: vs) := by
  have h0 := h 0 v rfl
  have hl : b < w.heap.size := by
    apply Classical.byContradiction
    intro hn
    have e : w.heap[b]? = none := by rw [Array.getElem?_eq_none]; omega
    simp [World.cell?, e] at h0
  intro j u hj
  have h1 := h j u hj
  have e := hb.block b hl
  simpa [World.cell?, e] using h1

end Go.Proofs.YtcadfccijeodbaaDoor

/- A drawn region all of whose operations read, reckon or call what leaves old memory alone: one walk of the text's order, under the kit's own light test. Nothing here speaks of a program. Each theorem names its own conditions. -/
namespace Go.Proofs.YtcadfccijeodbaaDoor
open Go.RowKit
set_option linter.unusedVariables false

section
variable {P : Program} {ops : Array Oper} {Q : Exit → Act → World → Prop}

theorem quietAt_ext {o : Oper} {a : Act} {w w' : World} {v : Value} (he : Ext w w') (h : o.quietAt P a (Ext w') w' v) : o.quietAt P a (Ext w) w' v := by
  unfold Oper.quietAt at *
  generalize (execOp a.eval o).run P w' = r at *
  cases r with
  | halt x w2 => exact h.elim
  | ok n w2 =>
    cases n <;> simp only [Oper.quietUpon] at h ⊢
    case value u => exact h
    case skip => exact h
    case enter f args => exact ⟨h.1, h.2.mono fun e w3 h3 => ⟨h3.1, he.trans h3.2⟩⟩

theorem quiet_of_det {w : World} {D : Act → Prop} : ∀ (l : List Oper) (a : Act), wpDet P ops (Ext w) D l a → wpQuiet P ops (Ext w) D l a
  | [], _, h => h
  | o :: l, a, h => by
    unfold wpQuiet
    split
    · rename_i hw
      obtain ⟨v, h1, h2⟩ := h.1 hw
      exact ⟨v, fun w' hw' => quietAt_ext hw' (h1 w' hw'), quiet_of_det l _ h2⟩
    · rename_i hw
      exact quiet_of_det l _ (h.2 (by simpa using hw))

theorem wp_region_all {id : Nat} {a : Act} {w : World} (hm : P.follows .mixedOrders = true) (hB : Region.lexB .any ops = true)
    (h : wpDet P ops (Ext w) (fun a' => ∀ w', Ext w w' → Q .normal a' w') ops.toList a) : (Code.region id ops true).wp P Q a w :=
  wp_region_quiet (C := Ext w) hm hB (Ext.drew w) (quiet_of_det _ _ h)
end

end Go.Proofs.YtcadfccijeodbaaDoor

/- Equality of bools in a drawn region's one walk. Nothing here speaks of a program. -/
namespace Go.Proofs.YtcadfccijeodbaaDoor
open Go.RowKit
set_option linter.unusedVariables false

section
variable {P : Program} {ops : Array Oper} {C : World → Prop} {D : Act → Prop}

theorem run_equalIn_bools {ty : TypeId} (hu : P.underlying ty = some .bool) (d : Nat) (a b : Bool) (w : World) : (Op.equalIn (d + 1) ty (.bool a) (.bool b)).run P w = .ok (a == b) w := by
  simp only [Op.equalIn, Sem.run_bind, run_underlying hu, Result.andThen_ok, Sem.run_pure]
theorem run_equal_bools {ty : TypeId} (hu : P.underlying ty = some .bool) (a b : Bool) (w : World) : (Op.equal ty (.bool a) (.bool b)).run P w = .ok (a == b) w :=
  run_equalIn_bools hu 9999 a b w
/-- A bool, held against itself. -/
theorem det_eqb {o : Oper} {rest : List Oper} {a : Act} {ty rt : TypeId} {x y : Operand} (b : Bool) (hu : P.underlying ty = some .bool) (hw : Region.wanted o (yielded ops a.tmps) = true) (ho : o.op = .binOp .eql ty x y rt) (hx : a.eval x = .bool b) (hy : a.eval y = .bool b)
    (next : wpDet P ops C D rest (a.put o.dst (.bool true))) : wpDet P ops C D (o :: rest) a :=
  det_val _ hw (fun w _ => by
    unfold execOp
    simp only [ho, hx, hy]
    simp [eqGuard, binOp, run_equal_bools hu]) next
end

end Go.Proofs.YtcadfccijeodbaaDoor

/- Shifts and complements of words of 32 bits in a drawn region's one walk; a block of words read cell by cell. Nothing here speaks of a program. Each theorem names its own conditions. -/
namespace Go.Proofs.YtcadfccijeodbaaDoor
open Go.RowKit
set_option linter.unusedVariables false

theorem blk_w {w : World} {c : Nat} {l : List W32} {t : TypeId} (h : Blk w c (ints .u32 (ws l)) t) {j : Nat} (hj : j < l.length) : w.cell? ⟨c, j, none⟩ = some (.int .u32 (wi (l.getD j 0#32))) := by
  rw [h.cell, ints_get (by rw [ws_length]; exact hj), ws_getD]

section
variable {P : Program} {ops : Array Oper} {C : World → Prop} {D : Act → Prop}
theorem wi_not (x : W32) : bits .xor .u32 4294967295 (wi x) = wi (~~~x) := by
  have e : (4294967295 : Int) = wi (BitVec.allOnes 32) := rfl
  rw [e, wi_xor]
  rw [BitVec.allOnes_xor]
theorem det_wishr {o : Oper} {rest : List Oper} {a : Act} (ty rt : TypeId) (x y : Operand) (m : W32) (n : Nat) (hw : Region.wanted o (yielded ops a.tmps) = true) (ho : o.op = .binOp .shr ty x y rt) (hx : a.eval x = .int .u32 (wi m)) (hy : a.eval y = .int .u64 (n : Int)) (hn : n ≤ 32)
    (next : wpDet P ops C D rest (a.put o.dst (.int .u32 (wi (m >>> n))))) : wpDet P ops C D (o :: rest) a :=
  det_val _ hw (fun w _ => by
    have e := wi_shr m n
    have h2 : ((n : Nat) : Int) ≤ 32 := by omega
    unfold execOp
    simp [ho, hx, hy, eqGuard, binOp]
    exact e) next
theorem det_winot {o : Oper} {rest : List Oper} {a : Act} (ty : TypeId) (x : Operand) (m : W32) (hw : Region.wanted o (yielded ops a.tmps) = true) (ho : o.op = .unOp .xor ty x) (hx : a.eval x = .int .u32 (wi m))
    (next : wpDet P ops C D rest (a.put o.dst (.int .u32 (wi (~~~m))))) : wpDet P ops C D (o :: rest) a :=
  det_val _ hw (fun w _ => by
    have e := wi_not m
    have h1 : (Op.intBits .xor .u32 4294967295 (wi m)) = pure (.int .u32 (bits .xor .u32 4294967295 (wi m))) := rfl
    have h2 : Op.unary .xor (.int .u32 (wi m)) = Op.intBits .xor .u32 4294967295 (wi m) := rfl
    unfold execOp
    simp only [ho, hx, h2, h1, e]
    simp) next
end

end Go.Proofs.YtcadfccijeodbaaDoor

/- A scope in which the run jumps back to one label: what stands at each jump is proved to serve once, and the way to the label uses it. Nothing here speaks of a program. Each theorem names its own conditions. -/
namespace Go.Proofs.YtcadfccijeodbaaDoor
set_option linter.unusedVariables false

section
variable {P : Program} {a : Act} {w : World} {Q : Exit → Act → World → Prop}
theorem Exit.jump_mono {l : Nat} {J J' : Act → World → Prop} (h : ∀ a w, J a w → J' a w) : ∀ {e : Exit} {a : Act} {w : World}, Exit.jump l J Q e a w → Exit.jump l J' Q e a w
  | .goto _, _, _, hh => ⟨hh.1, h _ _ hh.2⟩
  | .normal, _, _, hh => hh
  | .exit _, _, _, hh => hh
  | .ret, _, _, hh => hh
  | .panic _, _, _, hh => hh
  | .outgrown, _, _, hh => hh
theorem wp_scope_back {c rest : Code} (l : Nat) (J : Act → World → Prop) (μ : Act → World → Nat) (hf : findLabel c l = some rest)
    (first : (∀ a w, J a w → rest.wp P (Exit.jump l J Q) a w) → c.wp P (Exit.jump l J Q) a w)
    (pass : ∀ a w, J a w → rest.wp P (Exit.jump l (fun a' w' => J a' w' ∧ μ a' w' < μ a w) Q) a w) : (Code.scope c).wp P Q a w :=
  wp_scope_jumps l J μ hf (first fun a w h => Code.wp_mono (fun e a w h => Exit.jump_mono (fun _ _ h => h.1) h) (pass a w h)) pass
/-- The same, where what stands behind the label begins with nothing. -/
theorem wp_scope_back0 {c rest : Code} (l : Nat) (J : Act → World → Prop) (μ : Act → World → Nat) (hf : findLabel c l = some (Code.skip.seq rest))
    (first : (∀ a w, J a w → rest.wp P (Exit.jump l J Q) a w) → c.wp P (Exit.jump l J Q) a w)
    (pass : ∀ a w, J a w → rest.wp P (Exit.jump l (fun a' w' => J a' w' ∧ μ a' w' < μ a w) Q) a w) : (Code.scope c).wp P Q a w :=
  wp_scope_jumps l J μ hf (first fun a w h => Code.wp_mono (fun e a w h => Exit.jump_mono (fun _ _ h => h.1) h) (pass a w h)) fun a w h => wp_seq (wp_skip (pass a w h))
end

end Go.Proofs.YtcadfccijeodbaaDoor

/- The walk of package sha's mixed. Each theorem names its own conditions. -/
namespace Go.Proofs.YtcadfccijeodbaaDoor
open Go.RowKit
set_option linter.unusedVariables false
set_option linter.unusedSimpArgs false

/-- The digest with one more block. -/
def mixF (h : List W32) (x : List UInt8) : List W32 := hAdd h (vRun h (wSch x 0 48) 64) 8
theorem mixF_length (h : List W32) (x : List UInt8) : (mixF h x).length = h.length := hAdd_length _ _ _
/-- The variable roots reads as the text lays it. -/
def GlobR (w : World) : Prop := w.rangeAt 1 0 (ints .u32 (ws K256))
theorem GlobR.ext {w w' : World} (h : GlobR w) (hb : Ext w w') : GlobR w' := glob_ext h hb
theorem GlobR.cell {w : World} (h : GlobR w) {j : Nat} (hj : j < 64) : w.cell? ⟨1, j, none⟩ = some (.int .u32 (wi (K256.getD j 0#32))) := by
  have := h j (.int .u32 (wi (K256.getD j 0#32))) (by rw [ints_get (by rw [ws_length]; exact hj), ws_getD])
  simpa using this

theorem hAdd8 : ∀ (h v : List W32), h.length = 8 → v.length = 8 → hAdd h v 8 = [h.getD 0 0#32 + v.getD 0 0#32, h.getD 1 0#32 + v.getD 1 0#32, h.getD 2 0#32 + v.getD 2 0#32, h.getD 3 0#32 + v.getD 3 0#32, h.getD 4 0#32 + v.getD 4 0#32, h.getD 5 0#32 + v.getD 5 0#32, h.getD 6 0#32 + v.getD 6 0#32, h.getD 7 0#32 + v.getD 7 0#32]
  | [_, _, _, _, _, _, _, _], [_, _, _, _, _, _, _, _], _, _ => rfl
/-- What stands at the label, behind k rounds. -/
def MixJ (h : List W32) (cs : List UInt8) (A : Nat) (wb : World) (a : Act) (w : World) : Prop :=
  ∃ k B : Nat, k ≤ 64 ∧ Blk w A (ints .u32 (ws h)) 49 ∧ Blk w (A + 1 + 1) (ints .u32 (List.replicate 8 0)) 49 ∧ Blk w B (ints .u32 (ws (wSch cs 0 48))) 62 ∧ Ext wb w ∧
  ∃ u : Nat → Value, a = { tmps := #[.agg (ints .u32 (ws h)).toArray, .agg (cs.map bval).toArray, .pointer (some ⟨A, 0, none⟩), .pointer (some ⟨A + 1, 0, none⟩), .pointer (some ⟨A + 1 + 1, 0, none⟩), .pointer (some ⟨B, 0, none⟩),
    .int .u32 (wi ((vRun h (wSch cs 0 48) k).getD 0 0#32)), .int .u32 (wi ((vRun h (wSch cs 0 48) k).getD 1 0#32)), .int .u32 (wi ((vRun h (wSch cs 0 48) k).getD 2 0#32)), .int .u32 (wi ((vRun h (wSch cs 0 48) k).getD 3 0#32)), .int .u32 (wi ((vRun h (wSch cs 0 48) k).getD 4 0#32)), .int .u32 (wi ((vRun h (wSch cs 0 48) k).getD 5 0#32)), .int .u32 (wi ((vRun h (wSch cs 0 48) k).getD 6 0#32)), .int .u32 (wi ((vRun h (wSch cs 0 48) k).getD 7 0#32)), .int .i64 (k : Int), u 15, u 16, u 17, u 18, u 19, u 20, u 21, u 22, u 23, u 24, u 25, u 26, u 27, u 28, u 29, u 30, u 31, u 32, u 33, u 34, u 35, u 36, u 37, u 38, u 39, u 40, u 41, u 42, u 43, u 44, u 45, u 46, u 47, u 48, u 49, u 50, u 51, u 52, u 53, u 54, u 55, u 56, u 57, u 58, u 59, u 60, u 61, u 62, u 63, u 64, u 65, u 66, u 67, u 68, u 69, u 70, u 71, u 72, u 73, u 74, u 75, u 76, u 77, u 78, u 79, u 80, u 81, u 82, u 83, u 84, u 85, u 86, u 87, u 88, u 89, u 90, u 91, u 92, u 93, u 94, u 95, u 96, u 97, u 98, u 99, u 100, u 101, u 102, u 103, u 104, u 105, u 106, u 107, u 108, u 109, u 110, u 111, u 112, u 113, u 114, u 115, u 116, u 117, u 118], defers := [] }

set_option maxRecDepth 100000 in
set_option maxHeartbeats 8000000 in
theorem mixed_any (h : List W32) (cs : List UInt8) (w : World) (hh : h.length = 8) (hl : cs.length = 64) (hG : GlobR w) :
    Calls Tryd.prog 29 #[.agg (ints .u32 (ws h)).toArray, .agg (cs.map bval).toArray] w fun e w' => e = .returned (.agg (ints .u32 (ws (mixF h cs))).toArray) ∧ Below w.heap.size w w' := by
  have HL := Lib.hid hl
  have HH := Lib.hid hh
  have HG := Lib.hid hG
  have HB := Lib.hid (boxes3u w (ints .u32 (ws h)) (cs.map bval) (ints .u32 (List.replicate 8 0)) 49 55 49)
  have HIr : Hid ((Tryd.prog.info? 55).map (·.size) = some (cs.map bval).length) := Lib.hid (by rw [List.length_map, hl]; exact Tryd.arr55)
  clear hl hh hG
  go_enter Tryd.func29, Tryd.ntmps29
  go_upto_region 1 with (fail)
  obtain ⟨H1, H2, H3, HE⟩ := HB.out
  change Code.wp _ _ _ _ (((w.alloc (.cells (ints .u32 (ws h)).toArray 49)).alloc (.cells (cs.map bval).toArray 55)).alloc (.cells (ints .u32 (List.replicate 8 0)).toArray 49))
  generalize (((w.alloc (.cells (ints .u32 (ws h)).toArray 49)).alloc (.cells (cs.map bval).toArray 55)).alloc (.cells (ints .u32 (List.replicate 8 0)).toArray 49)) = w3 at *
  obtain ⟨A, hA⟩ : ∃ A, A = w.heap.size := ⟨_, rfl⟩
  rw [← hA] at H1 H2 H3 ⊢
  have hA2 : w.heap.size ≤ A := by omega
  have H1 := Lib.hid H1
  have H2 := Lib.hid H2
  have H3 := Lib.hid H3
  have HE : Hid (Ext w w3) := Lib.hid HE
  clear hA HB
  refine wp_scope_back0 0 (MixJ h cs A w) (fun a' _ => 64 - (intOf (a'.tmps.getD 14 undef)).toNat) rfl ?_ ?_
  · intro HP
    have HP := Lib.hid HP
    go_wp2_with (refine wpList_load_blk rfl _ _ rfl (A + 1) rfl _ _ _ _ H2.out Tryd.underlying55 HIr.out ?_)
    refine (schedule_any cs w3 HL.out).mono ?_
    rintro e w4 ⟨rfl, hb⟩
    have H1 := Lib.hid (ext_blk H1.out hb)
    have H3 := Lib.hid (ext_blk H3.out hb)
    have HE := Lib.hid (HE.out.trans hb)
    clear hb H2
    have HZ := Lib.hid (Blk.made w4 (ints .u32 (List.replicate 64 0)) 62)
    have H1L := Lib.hid H1.out.lt
    have H3L := Lib.hid H3.out.lt
    have H1 := Lib.hid (H1.out.alloc (.cells (ints .u32 (List.replicate 64 0)).toArray 62))
    have H3 := Lib.hid (H3.out.alloc (.cells (ints .u32 (List.replicate 64 0)).toArray 62))
    have HS4 := Lib.hid HE.out.size
    have HE := Lib.hid (HE.out.trans (Ext.alloc w4 (.cells (ints .u32 (List.replicate 64 0)).toArray 62)))
    have HLE : Hid ((ints .u32 (ws (wSch cs 0 48))).length = (ints .u32 (List.replicate 64 0)).length) := Lib.hid (by rw [ints_length, ws_length, wSch_length, ints_length, List.length_replicate])
    have HIw : Hid ((Tryd.prog.info? 62).map (·.size) = some (ints .u32 (ws (wSch cs 0 48))).length) := Lib.hid (by rw [ints_length, ws_length, wSch_length]; exact Tryd.arr62)
    go_wp2_with (refine wpList_store_blk rfl _ _ _ rfl w4.heap.size (ints .u32 (ws (wSch cs 0 48))) rfl rfl _ _ HZ.out HLE.out HIw.out (ints_one _ _) ?_; intro w5 hb5 hg5)
    have H1 := Lib.hid (H1.out.grown hg5 (by have := H1L.out; simp; omega))
    have H3 := Lib.hid (H3.out.grown hg5 (by have := H3L.out; simp; omega))
    have HE := Lib.hid (ext_grown HE.out hg5 HS4.out)
    have H4 := Lib.hid hb5
    generalize w4.heap.size = B at *
    clear hb5 hg5 HZ H1L H3L HS4 HLE HIw
    go_wp2_with fail
    refine wp_region_all (by kernel_rfl) (by kernel_rfl) ?_
    refine det_index _ _ _ _ A 8 0 (by rfl) rfl rfl rfl Tryd.underlying49 (by omega) (Tryd.sizeOf47) ?_
    simp only [Act.put, List.setIfInBounds_toArray, List.set_cons_zero, List.set_cons_succ]
    refine det_cell _ _ A 0 (.int .u32 (wi (h.getD 0 0#32))) (by rfl) rfl rfl (fun w hw => blk_w (ext_blk H1.out hw) (by rw [HH.out]; omega)) (Tryd.isAgg47) ?_
    simp only [Act.put, List.setIfInBounds_toArray, List.set_cons_zero, List.set_cons_succ]
    refine det_index _ _ _ _ A 8 1 (by rfl) rfl rfl rfl Tryd.underlying49 (by omega) (Tryd.sizeOf47) ?_
    simp only [Act.put, List.setIfInBounds_toArray, List.set_cons_zero, List.set_cons_succ]
    refine det_cell _ _ A 1 (.int .u32 (wi (h.getD 1 0#32))) (by rfl) rfl rfl (fun w hw => blk_w (ext_blk H1.out hw) (by rw [HH.out]; omega)) (Tryd.isAgg47) ?_
    simp only [Act.put, List.setIfInBounds_toArray, List.set_cons_zero, List.set_cons_succ]
    refine det_index _ _ _ _ A 8 2 (by rfl) rfl rfl rfl Tryd.underlying49 (by omega) (Tryd.sizeOf47) ?_
    simp only [Act.put, List.setIfInBounds_toArray, List.set_cons_zero, List.set_cons_succ]
    refine det_cell _ _ A 2 (.int .u32 (wi (h.getD 2 0#32))) (by rfl) rfl rfl (fun w hw => blk_w (ext_blk H1.out hw) (by rw [HH.out]; omega)) (Tryd.isAgg47) ?_
    simp only [Act.put, List.setIfInBounds_toArray, List.set_cons_zero, List.set_cons_succ]
    refine det_index _ _ _ _ A 8 3 (by rfl) rfl rfl rfl Tryd.underlying49 (by omega) (Tryd.sizeOf47) ?_
    simp only [Act.put, List.setIfInBounds_toArray, List.set_cons_zero, List.set_cons_succ]
    refine det_cell _ _ A 3 (.int .u32 (wi (h.getD 3 0#32))) (by rfl) rfl rfl (fun w hw => blk_w (ext_blk H1.out hw) (by rw [HH.out]; omega)) (Tryd.isAgg47) ?_
    simp only [Act.put, List.setIfInBounds_toArray, List.set_cons_zero, List.set_cons_succ]
    refine det_index _ _ _ _ A 8 4 (by rfl) rfl rfl rfl Tryd.underlying49 (by omega) (Tryd.sizeOf47) ?_
    simp only [Act.put, List.setIfInBounds_toArray, List.set_cons_zero, List.set_cons_succ]
    refine det_cell _ _ A 4 (.int .u32 (wi (h.getD 4 0#32))) (by rfl) rfl rfl (fun w hw => blk_w (ext_blk H1.out hw) (by rw [HH.out]; omega)) (Tryd.isAgg47) ?_
    simp only [Act.put, List.setIfInBounds_toArray, List.set_cons_zero, List.set_cons_succ]
    refine det_index _ _ _ _ A 8 5 (by rfl) rfl rfl rfl Tryd.underlying49 (by omega) (Tryd.sizeOf47) ?_
    simp only [Act.put, List.setIfInBounds_toArray, List.set_cons_zero, List.set_cons_succ]
    refine det_cell _ _ A 5 (.int .u32 (wi (h.getD 5 0#32))) (by rfl) rfl rfl (fun w hw => blk_w (ext_blk H1.out hw) (by rw [HH.out]; omega)) (Tryd.isAgg47) ?_
    simp only [Act.put, List.setIfInBounds_toArray, List.set_cons_zero, List.set_cons_succ]
    refine det_index _ _ _ _ A 8 6 (by rfl) rfl rfl rfl Tryd.underlying49 (by omega) (Tryd.sizeOf47) ?_
    simp only [Act.put, List.setIfInBounds_toArray, List.set_cons_zero, List.set_cons_succ]
    refine det_cell _ _ A 6 (.int .u32 (wi (h.getD 6 0#32))) (by rfl) rfl rfl (fun w hw => blk_w (ext_blk H1.out hw) (by rw [HH.out]; omega)) (Tryd.isAgg47) ?_
    simp only [Act.put, List.setIfInBounds_toArray, List.set_cons_zero, List.set_cons_succ]
    refine det_index _ _ _ _ A 8 7 (by rfl) rfl rfl rfl Tryd.underlying49 (by omega) (Tryd.sizeOf47) ?_
    simp only [Act.put, List.setIfInBounds_toArray, List.set_cons_zero, List.set_cons_succ]
    refine det_cell _ _ A 7 (.int .u32 (wi (h.getD 7 0#32))) (by rfl) rfl rfl (fun w hw => blk_w (ext_blk H1.out hw) (by rw [HH.out]; omega)) (Tryd.isAgg47) ?_
    simp only [Act.put, List.setIfInBounds_toArray, List.set_cons_zero, List.set_cons_succ]
    refine det_assign _ (.int .u32 (wi (h.getD 0 0#32))) (by rfl) rfl rfl ?_
    simp only [Act.put, List.setIfInBounds_toArray, List.set_cons_zero, List.set_cons_succ]
    refine det_assign _ (.int .u32 (wi (h.getD 1 0#32))) (by rfl) rfl rfl ?_
    simp only [Act.put, List.setIfInBounds_toArray, List.set_cons_zero, List.set_cons_succ]
    refine det_assign _ (.int .u32 (wi (h.getD 2 0#32))) (by rfl) rfl rfl ?_
    simp only [Act.put, List.setIfInBounds_toArray, List.set_cons_zero, List.set_cons_succ]
    refine det_assign _ (.int .u32 (wi (h.getD 3 0#32))) (by rfl) rfl rfl ?_
    simp only [Act.put, List.setIfInBounds_toArray, List.set_cons_zero, List.set_cons_succ]
    refine det_assign _ (.int .u32 (wi (h.getD 4 0#32))) (by rfl) rfl rfl ?_
    simp only [Act.put, List.setIfInBounds_toArray, List.set_cons_zero, List.set_cons_succ]
    refine det_assign _ (.int .u32 (wi (h.getD 5 0#32))) (by rfl) rfl rfl ?_
    simp only [Act.put, List.setIfInBounds_toArray, List.set_cons_zero, List.set_cons_succ]
    refine det_assign _ (.int .u32 (wi (h.getD 6 0#32))) (by rfl) rfl rfl ?_
    simp only [Act.put, List.setIfInBounds_toArray, List.set_cons_zero, List.set_cons_succ]
    refine det_assign _ (.int .u32 (wi (h.getD 7 0#32))) (by rfl) rfl rfl ?_
    simp only [Act.put, List.setIfInBounds_toArray, List.set_cons_zero, List.set_cons_succ]
    refine det_nil (fun w6 hw6 => ?_)
    have H1 := Lib.hid (ext_blk H1.out hw6)
    have H3 := Lib.hid (ext_blk H3.out hw6)
    have H4 := Lib.hid (ext_blk H4.out hw6)
    have HE := Lib.hid (HE.out.trans hw6)
    clear hw6
    go_wp2_with fail
    go_step3
    rename_i hK
    refine hK _ _ (HP.out _ _ ?_)
    exact ⟨0, B, by omega, H1.out, H3.out, H4.out, HE.out, fun n => ([_, _, _, _, _, _, _, _, _, _, _, _, _, _, _, _, _, _, _, _, _, _, _, _, _, _, _, _, _, _, _, _, _, _, _, _, _, _, _, _, _, _, _, _, _, _, _, _, _, _, _, _, _, _, _, _, _, _, _, _, _, _, _, _, _, _, _, _, _, _, _, _, _, _, _, _, _, _, _, _, _, _, _, _, _, _, _, _, _, _, _, _, _, _, _, _, _, _, _, _, _, _, _, _] : List Value).getD (n - 15) undef, rfl⟩
  · rintro a w7 ⟨k, B, hk, h1, h3, h4, hE, u, rfl⟩
    have H1 := Lib.hid h1
    have H3 := Lib.hid h3
    have H4 := Lib.hid h4
    have HE := Lib.hid hE
    clear h1 h3 h4 hE
    have hvl := vRun_length h (wSch cs 0 48) HH.out k
    by_cases hlt : k < 64
    · have k1 : (k : Int) < 64 := by omega
      have k0 : (0 : Int) ≤ (k : Int) := Int.natCast_nonneg _
      have HWK : Hid (∀ w', Blk w' B (ints .u32 (ws (wSch cs 0 48))) 62 → w'.cell? ⟨B, k, none⟩ = some (.int .u32 (wi ((wSch cs 0 48).getD k 0#32)))) := Lib.hid (fun w' h => blk_w h (by rw [wSch_length]; exact hlt))
      have HKK : Hid (∀ w', Ext w7 w' → w'.cell? ⟨1, k, none⟩ = some (.int .u32 (wi (K256.getD k 0#32)))) := Lib.hid (fun w' h => (HG.out.ext (HE.out.trans h)).cell hlt)
      have HRN : Hid (∀ j, (vRun h (wSch cs 0 48) (k + 1)).getD j 0#32 = (rnd (vRun h (wSch cs 0 48) k) (K256.getD k 0#32) ((wSch cs 0 48).getD k 0#32)).getD j 0#32) := Lib.hid (fun _ => rfl)
      unfold rnd at HRN
      generalize K256.getD k 0#32 = kk at *
      generalize (wSch cs 0 48).getD k 0#32 = wk at *
      generalize (vRun h (wSch cs 0 48) k).getD 0 0#32 = v0 at *
      generalize (vRun h (wSch cs 0 48) k).getD 1 0#32 = v1 at *
      generalize (vRun h (wSch cs 0 48) k).getD 2 0#32 = v2 at *
      generalize (vRun h (wSch cs 0 48) k).getD 3 0#32 = v3 at *
      generalize (vRun h (wSch cs 0 48) k).getD 4 0#32 = v4 at *
      generalize (vRun h (wSch cs 0 48) k).getD 5 0#32 = v5 at *
      generalize (vRun h (wSch cs 0 48) k).getD 6 0#32 = v6 at *
      generalize (vRun h (wSch cs 0 48) k).getD 7 0#32 = v7 at *
      go_wp2_with fail
      refine wp_region_all (by kernel_rfl) (by kernel_rfl) ?_
      refine det_move _ (.int .u32 (wi v7)) (by rfl) rfl rfl ?_
      simp only [Act.put, List.setIfInBounds_toArray, List.set_cons_zero, List.set_cons_succ]
      refine det_move _ (.int .u32 (wi v4)) (by rfl) rfl rfl ?_
      simp only [Act.put, List.setIfInBounds_toArray, List.set_cons_zero, List.set_cons_succ]
      refine det_call _ _ _ [.int .u32 (wi v4), .int .i64 6, .int .i64 11, .int .i64 25] (.int .u32 (wi (rotr v4 6 ^^^ rotr v4 11 ^^^ rotr v4 25))) (by rfl) rfl Tryd.call37 rfl (fun w hw => sum_ext v4 6 11 25 (by omega) (by omega) (by omega) (by omega) (by omega) (by omega) w) ?_
      simp only [Act.put, List.setIfInBounds_toArray, List.set_cons_zero, List.set_cons_succ]
      refine det_add _ _ _ _ _ _ _ (wi (v7 + (rotr v4 6 ^^^ rotr v4 11 ^^^ rotr v4 25))) (by rfl) rfl rfl rfl (wi_add _ _) ?_
      simp only [Act.put, List.setIfInBounds_toArray, List.set_cons_zero, List.set_cons_succ]
      refine det_move _ (.int .u32 (wi v4)) (by rfl) rfl rfl ?_
      simp only [Act.put, List.setIfInBounds_toArray, List.set_cons_zero, List.set_cons_succ]
      refine det_move _ (.int .u32 (wi v5)) (by rfl) rfl rfl ?_
      simp only [Act.put, List.setIfInBounds_toArray, List.set_cons_zero, List.set_cons_succ]
      refine det_and _ _ _ _ _ _ _ (wi (v4 &&& v5)) (by rfl) rfl rfl rfl (wi_and _ _) ?_
      simp only [Act.put, List.setIfInBounds_toArray, List.set_cons_zero, List.set_cons_succ]
      refine det_move _ (.int .u32 (wi v4)) (by rfl) rfl rfl ?_
      simp only [Act.put, List.setIfInBounds_toArray, List.set_cons_zero, List.set_cons_succ]
      refine det_winot _ _ v4 (by rfl) rfl rfl ?_
      simp only [Act.put, List.setIfInBounds_toArray, List.set_cons_zero, List.set_cons_succ]
      refine det_move _ (.int .u32 (wi v6)) (by rfl) rfl rfl ?_
      simp only [Act.put, List.setIfInBounds_toArray, List.set_cons_zero, List.set_cons_succ]
      refine det_and _ _ _ _ _ _ _ (wi ((~~~v4) &&& v6)) (by rfl) rfl rfl rfl (wi_and _ _) ?_
      simp only [Act.put, List.setIfInBounds_toArray, List.set_cons_zero, List.set_cons_succ]
      refine det_xor _ _ _ _ _ _ _ (wi ((v4 &&& v5) ^^^ ((~~~v4) &&& v6))) (by rfl) rfl rfl rfl (wi_xor _ _) ?_
      simp only [Act.put, List.setIfInBounds_toArray, List.set_cons_zero, List.set_cons_succ]
      refine det_add _ _ _ _ _ _ _ (wi ((v7 + (rotr v4 6 ^^^ rotr v4 11 ^^^ rotr v4 25)) + ((v4 &&& v5) ^^^ ((~~~v4) &&& v6)))) (by rfl) rfl rfl rfl (wi_add _ _) ?_
      simp only [Act.put, List.setIfInBounds_toArray, List.set_cons_zero, List.set_cons_succ]
      refine det_move _ (.int .i64 ((k : Nat) : Int)) (by rfl) rfl rfl ?_
      simp only [Act.put, List.setIfInBounds_toArray, List.set_cons_zero, List.set_cons_succ]
      refine det_index _ _ _ _ 1 64 k (by rfl) rfl rfl rfl Tryd.underlying62 (by omega) (Tryd.sizeOf47) ?_
      simp only [Act.put, List.setIfInBounds_toArray, List.set_cons_zero, List.set_cons_succ]
      refine det_cell _ _ 1 k (.int .u32 (wi kk)) (by rfl) rfl rfl (fun w hw => HKK.out _ hw) (Tryd.isAgg47) ?_
      simp only [Act.put, List.setIfInBounds_toArray, List.set_cons_zero, List.set_cons_succ]
      refine det_add _ _ _ _ _ _ _ (wi (((v7 + (rotr v4 6 ^^^ rotr v4 11 ^^^ rotr v4 25)) + ((v4 &&& v5) ^^^ ((~~~v4) &&& v6))) + kk)) (by rfl) rfl rfl rfl (wi_add _ _) ?_
      simp only [Act.put, List.setIfInBounds_toArray, List.set_cons_zero, List.set_cons_succ]
      refine det_move _ (.int .i64 ((k : Nat) : Int)) (by rfl) rfl rfl ?_
      simp only [Act.put, List.setIfInBounds_toArray, List.set_cons_zero, List.set_cons_succ]
      refine det_index _ _ _ _ B 64 k (by rfl) rfl rfl rfl Tryd.underlying62 (by omega) (Tryd.sizeOf47) ?_
      simp only [Act.put, List.setIfInBounds_toArray, List.set_cons_zero, List.set_cons_succ]
      refine det_cell _ _ B k (.int .u32 (wi wk)) (by rfl) rfl rfl (fun w hw => HWK.out _ (ext_blk H4.out hw)) (Tryd.isAgg47) ?_
      simp only [Act.put, List.setIfInBounds_toArray, List.set_cons_zero, List.set_cons_succ]
      refine det_add _ _ _ _ _ _ _ (wi ((((v7 + (rotr v4 6 ^^^ rotr v4 11 ^^^ rotr v4 25)) + ((v4 &&& v5) ^^^ ((~~~v4) &&& v6))) + kk) + wk)) (by rfl) rfl rfl rfl (wi_add _ _) ?_
      simp only [Act.put, List.setIfInBounds_toArray, List.set_cons_zero, List.set_cons_succ]
      refine det_assign _ (.int .u32 (wi ((((v7 + (rotr v4 6 ^^^ rotr v4 11 ^^^ rotr v4 25)) + ((v4 &&& v5) ^^^ ((~~~v4) &&& v6))) + kk) + wk))) (by rfl) rfl rfl ?_
      simp only [Act.put, List.setIfInBounds_toArray, List.set_cons_zero, List.set_cons_succ]
      refine det_nil (fun w1 hw1 => ?_)
      have H1 := Lib.hid (ext_blk H1.out hw1)
      have H3 := Lib.hid (ext_blk H3.out hw1)
      have H4 := Lib.hid (ext_blk H4.out hw1)
      have HE := Lib.hid (HE.out.trans hw1)
      clear hw1
      generalize ht : (((v7 + (rotr v4 6 ^^^ rotr v4 11 ^^^ rotr v4 25)) + ((v4 &&& v5) ^^^ ((~~~v4) &&& v6))) + kk) + wk = t at *
      have HT := Lib.hid ht
      clear ht
      go_wp2_with fail
      have q1 : bits .and .u32 (wi v0) (wi v1) = wi (v0 &&& v1) := wi_and _ _
      have q2 : bits .and .u32 (wi v0) (wi v2) = wi (v0 &&& v2) := wi_and _ _
      have q3 : bits .and .u32 (wi v1) (wi v2) = wi (v1 &&& v2) := wi_and _ _
      have q4 : bits .xor .u32 (wi (v0 &&& v1)) (wi (v0 &&& v2)) = wi (v0 &&& v1 ^^^ v0 &&& v2) := wi_xor _ _
      have q5 : bits .xor .u32 (wi (v0 &&& v1 ^^^ v0 &&& v2)) (wi (v1 &&& v2)) = wi (v0 &&& v1 ^^^ v0 &&& v2 ^^^ v1 &&& v2) := wi_xor _ _
      obtain ⟨u16, hu⟩ : ∃ x : W32, x = (rotr v0 2 ^^^ rotr v0 13 ^^^ rotr v0 22) + (v0 &&& v1 ^^^ v0 &&& v2 ^^^ v1 &&& v2) := ⟨_, rfl⟩
      have q6 : (wi (rotr v0 2 ^^^ rotr v0 13 ^^^ rotr v0 22) + wi (v0 &&& v1 ^^^ v0 &&& v2 ^^^ v1 &&& v2)) % 4294967296 = wi u16 := by rw [hu, ← wi_add, IntKind.wrap_u32]
      have q7 : (wi t + wi u16) % 4294967296 = wi (t + u16) := by rw [← wi_add, IntKind.wrap_u32]
      have q8 : (wi v3 + wi t) % 4294967296 = wi (v3 + t) := by rw [← wi_add, IntKind.wrap_u32]
      have HU := Lib.hid hu
      clear hu
      refine (sha_sum_any v0 2 13 22 (by omega) (by omega) (by omega) (by omega) (by omega) (by omega) w1).mono ?_
      rintro e w2 ⟨rfl, rfl⟩
      go_wp2_with fail
      clear q1 q2 q3 q4 q5 q6
      go_step3
      have r0 : (vRun h (wSch cs 0 48) (k + 1)).getD 0 0#32 = t + u16 := by rw [HRN.out, ← HT.out, HU.out]; rfl
      have r4 : (vRun h (wSch cs 0 48) (k + 1)).getD 4 0#32 = v3 + t := by rw [HRN.out, ← HT.out]; rfl
      have r1 : (vRun h (wSch cs 0 48) (k + 1)).getD 1 0#32 = v0 := HRN.out 1
      have r2 : (vRun h (wSch cs 0 48) (k + 1)).getD 2 0#32 = v1 := HRN.out 2
      have r3 : (vRun h (wSch cs 0 48) (k + 1)).getD 3 0#32 = v2 := HRN.out 3
      have r5 : (vRun h (wSch cs 0 48) (k + 1)).getD 5 0#32 = v4 := HRN.out 5
      have r6 : (vRun h (wSch cs 0 48) (k + 1)).getD 6 0#32 = v5 := HRN.out 6
      have r7 : (vRun h (wSch cs 0 48) (k + 1)).getD 7 0#32 = v6 := HRN.out 7
      have hk1 : ((k + 1 : Nat) : Int) = (k : Int) + 1 := by omega
      rw [q7, q8, ← r0, ← r4, ← r1, ← r2, ← r3, ← r5, ← r6, ← r7, ← hk1]
      change (0 = 0 ∧ (MixJ h cs A w _ _ ∧ _ < _))
      refine ⟨rfl, ⟨k + 1, B, by omega, H1.out, H3.out, H4.out, HE.out, fun n => ([_, _, _, _, _, _, _, _, _, _, _, _, _, _, _, _, _, _, _, _, _, _, _, _, _, _, _, _, _, _, _, _, _, _, _, _, _, _, _, _, _, _, _, _, _, _, _, _, _, _, _, _, _, _, _, _, _, _, _, _, _, _, _, _, _, _, _, _, _, _, _, _, _, _, _, _, _, _, _, _, _, _, _, _, _, _, _, _, _, _, _, _, _, _, _, _, _, _, _, _, _, _, _, _] : List Value).getD (n - 15) undef, rfl⟩, ?_⟩
      · show 64 - (intOf (.int .i64 ((k + 1 : Nat) : Int))).toNat < 64 - (intOf (.int .i64 (k : Int))).toNat
        simp [intOf]
        omega
    · have hk64 : k = 64 := by omega
      subst hk64
      have e := hAdd8 h (vRun h (wSch cs 0 48) 64) HH.out hvl
      have HM : Hid (mixF h cs = _) := Lib.hid e
      have hc : ∀ j, j < 8 → w7.cell? ⟨A, j, none⟩ = some (.int .u32 (wi (h.getD j 0#32))) := fun j hj => blk_w H1.out (by rw [HH.out]; exact hj)
      have c0 := hc 0 (by omega)
      have c1 := hc 1 (by omega)
      have c2 := hc 2 (by omega)
      have c3 := hc 3 (by omega)
      have c4 := hc 4 (by omega)
      have c5 := hc 5 (by omega)
      have c6 := hc 6 (by omega)
      have c7 := hc 7 (by omega)
      generalize (vRun h (wSch cs 0 48) 64).getD 0 0#32 = v0 at *
      generalize h.getD 0 0#32 = y0 at *
      have s0 : (wi y0 + wi v0) % 4294967296 = wi (y0 + v0) := by rw [← wi_add, IntKind.wrap_u32]
      generalize (vRun h (wSch cs 0 48) 64).getD 1 0#32 = v1 at *
      generalize h.getD 1 0#32 = y1 at *
      have s1 : (wi y1 + wi v1) % 4294967296 = wi (y1 + v1) := by rw [← wi_add, IntKind.wrap_u32]
      generalize (vRun h (wSch cs 0 48) 64).getD 2 0#32 = v2 at *
      generalize h.getD 2 0#32 = y2 at *
      have s2 : (wi y2 + wi v2) % 4294967296 = wi (y2 + v2) := by rw [← wi_add, IntKind.wrap_u32]
      generalize (vRun h (wSch cs 0 48) 64).getD 3 0#32 = v3 at *
      generalize h.getD 3 0#32 = y3 at *
      have s3 : (wi y3 + wi v3) % 4294967296 = wi (y3 + v3) := by rw [← wi_add, IntKind.wrap_u32]
      generalize (vRun h (wSch cs 0 48) 64).getD 4 0#32 = v4 at *
      generalize h.getD 4 0#32 = y4 at *
      have s4 : (wi y4 + wi v4) % 4294967296 = wi (y4 + v4) := by rw [← wi_add, IntKind.wrap_u32]
      generalize (vRun h (wSch cs 0 48) 64).getD 5 0#32 = v5 at *
      generalize h.getD 5 0#32 = y5 at *
      have s5 : (wi y5 + wi v5) % 4294967296 = wi (y5 + v5) := by rw [← wi_add, IntKind.wrap_u32]
      generalize (vRun h (wSch cs 0 48) 64).getD 6 0#32 = v6 at *
      generalize h.getD 6 0#32 = y6 at *
      have s6 : (wi y6 + wi v6) % 4294967296 = wi (y6 + v6) := by rw [← wi_add, IntKind.wrap_u32]
      generalize (vRun h (wSch cs 0 48) 64).getD 7 0#32 = v7 at *
      generalize h.getD 7 0#32 = y7 at *
      have s7 : (wi y7 + wi v7) % 4294967296 = wi (y7 + v7) := by rw [← wi_add, IntKind.wrap_u32]
      clear hc e
      have HIm : Hid ((Tryd.prog.info? 49).map (·.size) = some (ints .u32 (ws [y0 + v0, y1 + v1, y2 + v2, y3 + v3, y4 + v4, y5 + v5, y6 + v6, y7 + v7])).length) := Lib.hid Tryd.arr49
      go_wp2_with (refine wpList_store_blk rfl _ _ _ rfl (A + 1 + 1) (ints .u32 (ws [y0 + v0, y1 + v1, y2 + v2, y3 + v3, y4 + v4, y5 + v5, y6 + v6, y7 + v7])) rfl rfl _ _ H3.out (by simp [ints_length, ws_length]) HIm.out (ints_one _ _) ?_; intro w8 hb8 hg8)
      simp only [Exit.jump]
      refine bodyPost_ret (result_blk rfl _ (A + 1 + 1) _ _ _ _ rfl hb8 Tryd.underlying49 HIm.out) rfl ?_
      exact ⟨by rw [HM.out], ext_grown HE.out hg8 (by omega)⟩

end Go.Proofs.YtcadfccijeodbaaDoor

/- The listed variable of package sha reads as it is listed. Each theorem names its own conditions. -/
namespace Go.Proofs.YtcadfccijeodbaaDoor
open Go.RowKit
set_option linter.unusedVariables false

theorem gRoots : Tryd.prog.globalNamed "portcullis/sha.roots" = some 1 := by kernel_rfl
theorem tRoots : (Tryd.prog.globals[1]?).map (·.type) = some 62 := by kernel_rfl
theorem dRoots : (Rows.laid_portcullis_sha_roots : DataW Unit) = .agg ((ws K256).map fun z => .lit (.int .u32 z)) := by kernel_rfl
theorem globR_of {W : World} {L : List (String × DataW Unit)} (hp : (L.all fun x => x.2.handleName?.isNone) = true) (h : laidMetH Tryd.prog L W) (hm : ("portcullis/sha.roots", Rows.laid_portcullis_sha_roots) ∈ L) : GlobR W :=
  range_of_laid hp h hm dRoots gRoots tRoots Tryd.underlying62 Tryd.underlying47 (by kernel_rfl) (by rw [ws_length]; rfl)
theorem int_both {n : Int} (h : (Lit.int .i64 n).wf = true) : -9223372036854775808 ≤ n ∧ n ≤ 9223372036854775807 := by simpa [Lit.wf, IntKind.min, IntKind.max, IntKind.signed, IntKind.bits] using h
theorem int_lo {n : Int} (h : (Lit.int .i64 n).wf = true) : -9223372036854775808 ≤ n := (int_both h).1
theorem int_hi {n : Int} (h : (Lit.int .i64 n).wf = true) : n ≤ 9223372036854775807 := (int_both h).2

end Go.Proofs.YtcadfccijeodbaaDoor

/- The parameters of a call, five and more. Nothing here speaks of a program. Each theorem names its own conditions. -/
namespace Go.Proofs.YtcadfccijeodbaaDoor
open Go.ChangeShapes Go.WideShapes Go.ChangeAt Go.RowKit
set_option linter.unusedVariables false
set_option linter.unusedSimpArgs false

section
variable {H : Type} {enc : TypeId × Value → H} {P : Program} {w : World} {base : Nat} {spare : Nat → Bool} {held : Bool}
theorem trodAll_five {t0 t1 t2 t3 t4 : TypeId} {args : Array Value} {ds : List (DataW H)} {ps : List MemPlace} (h : DataW.TrodAll enc P w base spare held [t0, t1, t2, t3, t4] args.toList ds ps) :
    ∃ v0 v1 v2 v3 v4 d0 d1 d2 d3 d4 p0 p1 p2 p3 p4, args = #[v0, v1, v2, v3, v4] ∧ ds = [d0, d1, d2, d3, d4] ∧ ps = p0 ++ p1 ++ p2 ++ p3 ++ p4 ∧ DataW.Trod enc P w base spare held t0 v0 d0 p0 ∧ DataW.Trod enc P w base spare held t1 v1 d1 p1 ∧ DataW.Trod enc P w base spare held t2 v2 d2 p2 ∧ DataW.Trod enc P w base spare held t3 v3 d3 p3 ∧ DataW.Trod enc P w base spare held t4 v4 d4 p4 := by
  obtain ⟨v0, vs0, d0, ds0, p0, q0, hargs, rfl, rfl, h0, r0⟩ := trodAll_cons h
  obtain ⟨v1, vs1, d1, ds1, p1, q1, rfl, rfl, rfl, h1, r1⟩ := trodAll_cons r0
  obtain ⟨v2, vs2, d2, ds2, p2, q2, rfl, rfl, rfl, h2, r2⟩ := trodAll_cons r1
  obtain ⟨v3, vs3, d3, ds3, p3, q3, rfl, rfl, rfl, h3, r3⟩ := trodAll_cons r2
  obtain ⟨v4, vs4, d4, ds4, p4, q4, rfl, rfl, rfl, h4, r4⟩ := trodAll_cons r3
  obtain ⟨rfl, rfl, rfl⟩ := trodAll_nil r4
  exact ⟨v0, v1, v2, v3, v4, d0, d1, d2, d3, d4, p0, p1, p2, p3, p4, by cases args; simp_all, rfl, by simp, h0, h1, h2, h3, h4⟩
theorem trodAll_six {t0 t1 t2 t3 t4 t5 : TypeId} {args : Array Value} {ds : List (DataW H)} {ps : List MemPlace} (h : DataW.TrodAll enc P w base spare held [t0, t1, t2, t3, t4, t5] args.toList ds ps) :
    ∃ v0 v1 v2 v3 v4 v5 d0 d1 d2 d3 d4 d5 p0 p1 p2 p3 p4 p5, args = #[v0, v1, v2, v3, v4, v5] ∧ ds = [d0, d1, d2, d3, d4, d5] ∧ ps = p0 ++ p1 ++ p2 ++ p3 ++ p4 ++ p5 ∧ DataW.Trod enc P w base spare held t0 v0 d0 p0 ∧ DataW.Trod enc P w base spare held t1 v1 d1 p1 ∧ DataW.Trod enc P w base spare held t2 v2 d2 p2 ∧ DataW.Trod enc P w base spare held t3 v3 d3 p3 ∧ DataW.Trod enc P w base spare held t4 v4 d4 p4 ∧ DataW.Trod enc P w base spare held t5 v5 d5 p5 := by
  obtain ⟨v0, vs0, d0, ds0, p0, q0, hargs, rfl, rfl, h0, r0⟩ := trodAll_cons h
  obtain ⟨v1, vs1, d1, ds1, p1, q1, rfl, rfl, rfl, h1, r1⟩ := trodAll_cons r0
  obtain ⟨v2, vs2, d2, ds2, p2, q2, rfl, rfl, rfl, h2, r2⟩ := trodAll_cons r1
  obtain ⟨v3, vs3, d3, ds3, p3, q3, rfl, rfl, rfl, h3, r3⟩ := trodAll_cons r2
  obtain ⟨v4, vs4, d4, ds4, p4, q4, rfl, rfl, rfl, h4, r4⟩ := trodAll_cons r3
  obtain ⟨v5, vs5, d5, ds5, p5, q5, rfl, rfl, rfl, h5, r5⟩ := trodAll_cons r4
  obtain ⟨rfl, rfl, rfl⟩ := trodAll_nil r5
  exact ⟨v0, v1, v2, v3, v4, v5, d0, d1, d2, d3, d4, d5, p0, p1, p2, p3, p4, p5, by cases args; simp_all, rfl, by simp, h0, h1, h2, h3, h4, h5⟩
theorem trodAll_seven {t0 t1 t2 t3 t4 t5 t6 : TypeId} {args : Array Value} {ds : List (DataW H)} {ps : List MemPlace} (h : DataW.TrodAll enc P w base spare held [t0, t1, t2, t3, t4, t5, t6] args.toList ds ps) :
    ∃ v0 v1 v2 v3 v4 v5 v6 d0 d1 d2 d3 d4 d5 d6 p0 p1 p2 p3 p4 p5 p6, args = #[v0, v1, v2, v3, v4, v5, v6] ∧ ds = [d0, d1, d2, d3, d4, d5, d6] ∧ ps = p0 ++ p1 ++ p2 ++ p3 ++ p4 ++ p5 ++ p6 ∧ DataW.Trod enc P w base spare held t0 v0 d0 p0 ∧ DataW.Trod enc P w base spare held t1 v1 d1 p1 ∧ DataW.Trod enc P w base spare held t2 v2 d2 p2 ∧ DataW.Trod enc P w base spare held t3 v3 d3 p3 ∧ DataW.Trod enc P w base spare held t4 v4 d4 p4 ∧ DataW.Trod enc P w base spare held t5 v5 d5 p5 ∧ DataW.Trod enc P w base spare held t6 v6 d6 p6 := by
  obtain ⟨v0, vs0, d0, ds0, p0, q0, hargs, rfl, rfl, h0, r0⟩ := trodAll_cons h
  obtain ⟨v1, vs1, d1, ds1, p1, q1, rfl, rfl, rfl, h1, r1⟩ := trodAll_cons r0
  obtain ⟨v2, vs2, d2, ds2, p2, q2, rfl, rfl, rfl, h2, r2⟩ := trodAll_cons r1
  obtain ⟨v3, vs3, d3, ds3, p3, q3, rfl, rfl, rfl, h3, r3⟩ := trodAll_cons r2
  obtain ⟨v4, vs4, d4, ds4, p4, q4, rfl, rfl, rfl, h4, r4⟩ := trodAll_cons r3
  obtain ⟨v5, vs5, d5, ds5, p5, q5, rfl, rfl, rfl, h5, r5⟩ := trodAll_cons r4
  obtain ⟨v6, vs6, d6, ds6, p6, q6, rfl, rfl, rfl, h6, r6⟩ := trodAll_cons r5
  obtain ⟨rfl, rfl, rfl⟩ := trodAll_nil r6
  exact ⟨v0, v1, v2, v3, v4, v5, v6, d0, d1, d2, d3, d4, d5, d6, p0, p1, p2, p3, p4, p5, p6, by cases args; simp_all, rfl, by simp, h0, h1, h2, h3, h4, h5, h6⟩
theorem trodAll_eight {t0 t1 t2 t3 t4 t5 t6 t7 : TypeId} {args : Array Value} {ds : List (DataW H)} {ps : List MemPlace} (h : DataW.TrodAll enc P w base spare held [t0, t1, t2, t3, t4, t5, t6, t7] args.toList ds ps) :
    ∃ v0 v1 v2 v3 v4 v5 v6 v7 d0 d1 d2 d3 d4 d5 d6 d7 p0 p1 p2 p3 p4 p5 p6 p7, args = #[v0, v1, v2, v3, v4, v5, v6, v7] ∧ ds = [d0, d1, d2, d3, d4, d5, d6, d7] ∧ ps = p0 ++ p1 ++ p2 ++ p3 ++ p4 ++ p5 ++ p6 ++ p7 ∧ DataW.Trod enc P w base spare held t0 v0 d0 p0 ∧ DataW.Trod enc P w base spare held t1 v1 d1 p1 ∧ DataW.Trod enc P w base spare held t2 v2 d2 p2 ∧ DataW.Trod enc P w base spare held t3 v3 d3 p3 ∧ DataW.Trod enc P w base spare held t4 v4 d4 p4 ∧ DataW.Trod enc P w base spare held t5 v5 d5 p5 ∧ DataW.Trod enc P w base spare held t6 v6 d6 p6 ∧ DataW.Trod enc P w base spare held t7 v7 d7 p7 := by
  obtain ⟨v0, vs0, d0, ds0, p0, q0, hargs, rfl, rfl, h0, r0⟩ := trodAll_cons h
  obtain ⟨v1, vs1, d1, ds1, p1, q1, rfl, rfl, rfl, h1, r1⟩ := trodAll_cons r0
  obtain ⟨v2, vs2, d2, ds2, p2, q2, rfl, rfl, rfl, h2, r2⟩ := trodAll_cons r1
  obtain ⟨v3, vs3, d3, ds3, p3, q3, rfl, rfl, rfl, h3, r3⟩ := trodAll_cons r2
  obtain ⟨v4, vs4, d4, ds4, p4, q4, rfl, rfl, rfl, h4, r4⟩ := trodAll_cons r3
  obtain ⟨v5, vs5, d5, ds5, p5, q5, rfl, rfl, rfl, h5, r5⟩ := trodAll_cons r4
  obtain ⟨v6, vs6, d6, ds6, p6, q6, rfl, rfl, rfl, h6, r6⟩ := trodAll_cons r5
  obtain ⟨v7, vs7, d7, ds7, p7, q7, rfl, rfl, rfl, h7, r7⟩ := trodAll_cons r6
  obtain ⟨rfl, rfl, rfl⟩ := trodAll_nil r7
  exact ⟨v0, v1, v2, v3, v4, v5, v6, v7, d0, d1, d2, d3, d4, d5, d6, d7, p0, p1, p2, p3, p4, p5, p6, p7, by cases args; simp_all, rfl, by simp, h0, h1, h2, h3, h4, h5, h6, h7⟩
theorem trodAll_nine {t0 t1 t2 t3 t4 t5 t6 t7 t8 : TypeId} {args : Array Value} {ds : List (DataW H)} {ps : List MemPlace} (h : DataW.TrodAll enc P w base spare held [t0, t1, t2, t3, t4, t5, t6, t7, t8] args.toList ds ps) :
    ∃ v0 v1 v2 v3 v4 v5 v6 v7 v8 d0 d1 d2 d3 d4 d5 d6 d7 d8 p0 p1 p2 p3 p4 p5 p6 p7 p8, args = #[v0, v1, v2, v3, v4, v5, v6, v7, v8] ∧ ds = [d0, d1, d2, d3, d4, d5, d6, d7, d8] ∧ ps = p0 ++ p1 ++ p2 ++ p3 ++ p4 ++ p5 ++ p6 ++ p7 ++ p8 ∧ DataW.Trod enc P w base spare held t0 v0 d0 p0 ∧ DataW.Trod enc P w base spare held t1 v1 d1 p1 ∧ DataW.Trod enc P w base spare held t2 v2 d2 p2 ∧ DataW.Trod enc P w base spare held t3 v3 d3 p3 ∧ DataW.Trod enc P w base spare held t4 v4 d4 p4 ∧ DataW.Trod enc P w base spare held t5 v5 d5 p5 ∧ DataW.Trod enc P w base spare held t6 v6 d6 p6 ∧ DataW.Trod enc P w base spare held t7 v7 d7 p7 ∧ DataW.Trod enc P w base spare held t8 v8 d8 p8 := by
  obtain ⟨v0, vs0, d0, ds0, p0, q0, hargs, rfl, rfl, h0, r0⟩ := trodAll_cons h
  obtain ⟨v1, vs1, d1, ds1, p1, q1, rfl, rfl, rfl, h1, r1⟩ := trodAll_cons r0
  obtain ⟨v2, vs2, d2, ds2, p2, q2, rfl, rfl, rfl, h2, r2⟩ := trodAll_cons r1
  obtain ⟨v3, vs3, d3, ds3, p3, q3, rfl, rfl, rfl, h3, r3⟩ := trodAll_cons r2
  obtain ⟨v4, vs4, d4, ds4, p4, q4, rfl, rfl, rfl, h4, r4⟩ := trodAll_cons r3
  obtain ⟨v5, vs5, d5, ds5, p5, q5, rfl, rfl, rfl, h5, r5⟩ := trodAll_cons r4
  obtain ⟨v6, vs6, d6, ds6, p6, q6, rfl, rfl, rfl, h6, r6⟩ := trodAll_cons r5
  obtain ⟨v7, vs7, d7, ds7, p7, q7, rfl, rfl, rfl, h7, r7⟩ := trodAll_cons r6
  obtain ⟨v8, vs8, d8, ds8, p8, q8, rfl, rfl, rfl, h8, r8⟩ := trodAll_cons r7
  obtain ⟨rfl, rfl, rfl⟩ := trodAll_nil r8
  exact ⟨v0, v1, v2, v3, v4, v5, v6, v7, v8, d0, d1, d2, d3, d4, d5, d6, d7, d8, p0, p1, p2, p3, p4, p5, p6, p7, p8, by cases args; simp_all, rfl, by simp, h0, h1, h2, h3, h4, h5, h6, h7, h8⟩
end

end Go.Proofs.YtcadfccijeodbaaDoor

/- Hash trees over lists of lists of bytes: the root, the path of a place, what a path leads to. No program. Each theorem names its own conditions. -/
namespace Go.Proofs.YtcadfccijeodbaaDoor
open Go.RowKit
set_option linter.unusedVariables false

/-- The greatest power of 2 below n (from 2 on). -/
def merK (n : Nat) : Nat := 2 ^ Nat.log2 (n - 1)
theorem merK_pos (n : Nat) : 0 < merK n := Nat.pow_pos (by omega)
theorem merK_lt {n : Nat} (h : 2 ≤ n) : merK n < n := by
  have := Nat.log2_self_le (n := n - 1) (by omega)
  unfold merK
  omega
theorem merK_le {n : Nat} (h : 2 ≤ n) : n ≤ 2 * merK n := by
  have := Nat.lt_log2_self (n := n - 1)
  unfold merK
  rw [Nat.pow_succ] at this
  omega
theorem pow_gap {a b : Nat} (h1 : 2 ^ a < 2 * 2 ^ b) (h2 : 2 ^ b < 2 * 2 ^ a) : a = b := by
  rw [Nat.mul_comm, ← Nat.pow_succ] at h1 h2
  have := (Nat.pow_lt_pow_iff_right (by decide : 1 < 2)).1 h1
  have := (Nat.pow_lt_pow_iff_right (by decide : 1 < 2)).1 h2
  omega
/-- It is the only one. -/
theorem merK_of {n j : Nat} (h : 2 ≤ n) (h1 : 2 ^ j < n) (h2 : n ≤ 2 * 2 ^ j) : merK n = 2 ^ j := by
  have h3 := merK_lt h
  have h4 := merK_le h
  unfold merK at h3 h4 ⊢
  rw [pow_gap (a := Nat.log2 (n - 1)) (b := j) (by omega) (by omega)]

def merRF : Nat → List (List UInt8) → List UInt8
  | 0, _ => sha256 []
  | f + 1, l => if l.length = 0 then sha256 [] else if l.length = 1 then sha256 (0 :: l.headD [])
    else sha256 (1 :: (merRF f (l.take (merK l.length)) ++ merRF f (l.drop (merK l.length))))
theorem merRF_more : ∀ (f g : Nat) (l : List (List UInt8)), l.length ≤ f → l.length ≤ g → merRF f l = merRF g l
  | 0, 0, l, _, _ => rfl
  | 0, g + 1, l, h, _ => by
    rw [merRF, merRF, if_pos (by omega)]
  | f + 1, 0, l, _, h => by
    rw [merRF, merRF, if_pos (by omega)]
  | f + 1, g + 1, l, h1, h2 => by
    rw [merRF, merRF]
    by_cases e0 : l.length = 0
    · rw [if_pos e0, if_pos e0]
    · rw [if_neg e0, if_neg e0]
      by_cases e1 : l.length = 1
      · rw [if_pos e1, if_pos e1]
      · have hk := merK_lt (n := l.length) (by omega)
        have hp := merK_pos l.length
        rw [if_neg e1, if_neg e1, merRF_more f g (l.take (merK l.length)) (by rw [List.length_take]; omega) (by rw [List.length_take]; omega),
          merRF_more f g (l.drop (merK l.length)) (by rw [List.length_drop]; omega) (by rw [List.length_drop]; omega)]
/-- The root. -/
def merR (l : List (List UInt8)) : List UInt8 := merRF l.length l
theorem merR_nil {l : List (List UInt8)} (h : l.length = 0) : merR l = sha256 [] := by
  unfold merR
  rw [h]
  rfl
theorem merR_one (b : List UInt8) : merR [b] = sha256 (0 :: b) := rfl
theorem merR_one' {l : List (List UInt8)} (h : l.length = 1) : merR l = sha256 (0 :: l.headD []) := by
  unfold merR
  rw [h, merRF, if_neg (by omega), if_pos h]
theorem merR_two {l : List (List UInt8)} (h : 2 ≤ l.length) : merR l = sha256 (1 :: (merR (l.take (merK l.length)) ++ merR (l.drop (merK l.length)))) := by
  have hk := merK_lt h
  have hp := merK_pos l.length
  obtain ⟨f, hf⟩ : ∃ f, l.length = f + 1 := ⟨l.length - 1, by omega⟩
  have e : merR l = merRF (f + 1) l := by unfold merR; rw [hf]
  rw [e, merRF, if_neg (by omega), if_neg (by omega)]
  unfold merR
  rw [merRF_more f (l.take (merK l.length)).length (l.take (merK l.length)) (by rw [List.length_take]; omega) (Nat.le_refl _),
    merRF_more f (l.drop (merK l.length)).length (l.drop (merK l.length)) (by rw [List.length_drop]; omega) (Nat.le_refl _)]
theorem merRF_length : ∀ (f : Nat) (l : List (List UInt8)), (merRF f l).length = 32
  | 0, l => sha256_length _
  | f + 1, l => by
    rw [merRF]
    split
    · exact sha256_length _
    · split <;> exact sha256_length _
theorem merR_length (l : List (List UInt8)) : (merR l).length = 32 := merRF_length _ _

def merPF : Nat → List (List UInt8) → Nat → List (List UInt8)
  | 0, _, _ => []
  | f + 1, l, i => if l.length < 2 then [] else if i < merK l.length then merPF f (l.take (merK l.length)) i ++ [merR (l.drop (merK l.length))]
    else merPF f (l.drop (merK l.length)) (i - merK l.length) ++ [merR (l.take (merK l.length))]
theorem merPF_more : ∀ (f g : Nat) (l : List (List UInt8)) (i : Nat), l.length ≤ f → l.length ≤ g → merPF f l i = merPF g l i
  | 0, 0, l, i, _, _ => rfl
  | 0, g + 1, l, i, h, _ => by
    rw [merPF, merPF, if_pos (by omega)]
  | f + 1, 0, l, i, _, h => by
    rw [merPF, merPF, if_pos (by omega)]
  | f + 1, g + 1, l, i, h1, h2 => by
    rw [merPF, merPF]
    by_cases e0 : l.length < 2
    · rw [if_pos e0, if_pos e0]
    · have hk := merK_lt (n := l.length) (by omega)
      have hp := merK_pos l.length
      rw [if_neg e0, if_neg e0, merPF_more f g (l.take (merK l.length)) i (by rw [List.length_take]; omega) (by rw [List.length_take]; omega),
        merPF_more f g (l.drop (merK l.length)) (i - merK l.length) (by rw [List.length_drop]; omega) (by rw [List.length_drop]; omega)]
/-- The path of the place i, from the element to the root. -/
def merP (l : List (List UInt8)) (i : Nat) : List (List UInt8) := merPF l.length l i
theorem merP_few {l : List (List UInt8)} (i : Nat) (h : l.length < 2) : merP l i = [] := by
  unfold merP
  obtain e | e : l.length = 0 ∨ l.length = 1 := by omega
  · rw [e]; rfl
  · rw [e, merPF, if_pos h]
theorem merP_low {l : List (List UInt8)} {i : Nat} (h : 2 ≤ l.length) (hi : i < merK l.length) : merP l i = merP (l.take (merK l.length)) i ++ [merR (l.drop (merK l.length))] := by
  have hk := merK_lt h
  have hp := merK_pos l.length
  obtain ⟨f, hf⟩ : ∃ f, l.length = f + 1 := ⟨l.length - 1, by omega⟩
  have e : merP l i = merPF (f + 1) l i := by unfold merP; rw [hf]
  rw [e, merPF, if_neg (by omega), if_pos hi]
  unfold merP
  rw [merPF_more f (l.take (merK l.length)).length (l.take (merK l.length)) i (by rw [List.length_take]; omega) (Nat.le_refl _)]
theorem merP_high {l : List (List UInt8)} {i : Nat} (h : 2 ≤ l.length) (hi : ¬ i < merK l.length) : merP l i = merP (l.drop (merK l.length)) (i - merK l.length) ++ [merR (l.take (merK l.length))] := by
  have hk := merK_lt h
  have hp := merK_pos l.length
  obtain ⟨f, hf⟩ : ∃ f, l.length = f + 1 := ⟨l.length - 1, by omega⟩
  have e : merP l i = merPF (f + 1) l i := by unfold merP; rw [hf]
  rw [e, merPF, if_neg (by omega), if_neg hi]
  unfold merP
  rw [merPF_more f (l.drop (merK l.length)).length (l.drop (merK l.length)) (i - merK l.length) (by rw [List.length_drop]; omega) (Nat.le_refl _)]
theorem merPF_nums : ∀ (f : Nat) (l : List (List UInt8)) (i : Nat), ∀ x ∈ merPF f l i, x.length = 32
  | 0, l, i, x, hx => by rw [merPF] at hx; cases hx
  | f + 1, l, i, x, hx => by
    rw [merPF] at hx
    split at hx
    · cases hx
    · split at hx
      · rcases List.mem_append.1 hx with h | h
        · exact merPF_nums f _ _ x h
        · rw [List.mem_singleton.1 h]; exact merR_length _
      · rcases List.mem_append.1 hx with h | h
        · exact merPF_nums f _ _ x h
        · rw [List.mem_singleton.1 h]; exact merR_length _
theorem merP_nums (l : List (List UInt8)) (i : Nat) : ∀ x ∈ merP l i, x.length = 32 := merPF_nums _ _ _

def merUF : Nat → Nat → Nat → List UInt8 → List (List UInt8) → Option (List UInt8)
  | 0, _, _, _, _ => none
  | f + 1, n, i, b, p => if n = 1 then (if p.length = 0 then some (sha256 (0 :: b)) else none) else if p.length = 0 then none
    else if i < merK n then (merUF f (merK n) i b p.dropLast).map fun h => sha256 (1 :: (h ++ p.getLastD []))
    else (merUF f (n - merK n) (i - merK n) b p.dropLast).map fun h => sha256 (1 :: (p.getLastD [] ++ h))
theorem merUF_more : ∀ (f g n i : Nat) (b : List UInt8) (p : List (List UInt8)), 0 < n → n ≤ f → n ≤ g → merUF f n i b p = merUF g n i b p
  | 0, _, n, _, _, _, h, h1, _ => by omega
  | _ + 1, 0, n, _, _, _, h, _, h2 => by omega
  | f + 1, g + 1, n, i, b, p, h, h1, h2 => by
    rw [merUF, merUF]
    by_cases e : n = 1
    · rw [if_pos e, if_pos e]
    · have hk := merK_lt (n := n) (by omega)
      have hp := merK_pos n
      rw [if_neg e, if_neg e, merUF_more f g (merK n) i b _ hp (by omega) (by omega), merUF_more f g (n - merK n) (i - merK n) b _ (by omega) (by omega) (by omega)]
/-- What a path of the place i among n leads to; nothing, if it is of another length. -/
def merU (n i : Nat) (b : List UInt8) (p : List (List UInt8)) : Option (List UInt8) := merUF n n i b p
theorem merU_one (i : Nat) (b : List UInt8) (p : List (List UInt8)) : merU 1 i b p = if p.length = 0 then some (sha256 (0 :: b)) else none := rfl
theorem merU_none {n : Nat} (i : Nat) (b : List UInt8) {p : List (List UInt8)} (h : 2 ≤ n) (hp : p.length = 0) : merU n i b p = none := by
  obtain ⟨f, rfl⟩ : ∃ f, n = f + 1 := ⟨n - 1, by omega⟩
  unfold merU
  rw [merUF, if_neg (by omega), if_pos hp]
theorem merU_low {n i : Nat} (b : List UInt8) {p : List (List UInt8)} (h : 2 ≤ n) (hp : p.length ≠ 0) (hi : i < merK n) : merU n i b p = (merU (merK n) i b p.dropLast).map fun h => sha256 (1 :: (h ++ p.getLastD [])) := by
  have hk := merK_lt h
  have hq := merK_pos n
  obtain ⟨f, hf⟩ : ∃ f, n = f + 1 := ⟨n - 1, by omega⟩
  have e : merU n i b p = merUF (f + 1) n i b p := by unfold merU; rw [← hf]
  rw [e, merUF, if_neg (by omega), if_neg hp, if_pos hi]
  unfold merU
  rw [merUF_more f (merK n) (merK n) i b _ hq (by omega) (Nat.le_refl _)]
theorem merU_high {n i : Nat} (b : List UInt8) {p : List (List UInt8)} (h : 2 ≤ n) (hp : p.length ≠ 0) (hi : ¬ i < merK n) : merU n i b p = (merU (n - merK n) (i - merK n) b p.dropLast).map fun h => sha256 (1 :: (p.getLastD [] ++ h)) := by
  have hk := merK_lt h
  have hq := merK_pos n
  obtain ⟨f, hf⟩ : ∃ f, n = f + 1 := ⟨n - 1, by omega⟩
  have e : merU n i b p = merUF (f + 1) n i b p := by unfold merU; rw [← hf]
  rw [e, merUF, if_neg (by omega), if_neg hp, if_neg hi]
  unfold merU
  rw [merUF_more f (n - merK n) (n - merK n) (i - merK n) b _ (by omega) (by omega) (Nat.le_refl _)]

/-- Each element's path leads to the root. -/
theorem merU_path : ∀ (m : Nat) (l : List (List UInt8)) (i : Nat), l.length ≤ m → i < l.length → merU l.length i (l.getD i []) (merP l i) = some (merR l)
  | 0, l, i, h, hi => by omega
  | m + 1, l, i, h, hi => by
    by_cases h1 : l.length = 1
    · have h0 : i = 0 := by omega
      subst h0
      rw [h1, merU_one, merP_few 0 (by omega), if_pos (by rfl : ([] : List (List UInt8)).length = 0), merR_one' h1]
      cases l with
      | nil => simp at h1
      | cons a t => rfl
    · have h2 : 2 ≤ l.length := by omega
      have hk := merK_lt h2
      have hq := merK_pos l.length
      by_cases hi2 : i < merK l.length
      · rw [merP_low h2 hi2, merU_low _ h2 (by simp) hi2, List.dropLast_concat, List.getLastD_concat]
        have e := merU_path m (l.take (merK l.length)) i (by rw [List.length_take]; omega) (by rw [List.length_take]; omega)
        rw [List.length_take, Nat.min_eq_left (by omega)] at e
        have eg : (l.take (merK l.length)).getD i [] = l.getD i [] := by
          rw [List.getD_eq_getElem?_getD, List.getElem?_take, if_pos hi2, ← List.getD_eq_getElem?_getD]
        rw [eg] at e
        rw [e, merR_two h2]
        rfl
      · rw [merP_high h2 hi2, merU_high _ h2 (by simp) hi2, List.dropLast_concat, List.getLastD_concat]
        have e := merU_path m (l.drop (merK l.length)) (i - merK l.length) (by rw [List.length_drop]; omega) (by rw [List.length_drop]; omega)
        rw [List.length_drop] at e
        have eg : (l.drop (merK l.length)).getD (i - merK l.length) [] = l.getD i [] := by
          rw [List.getD_eq_getElem?_getD, List.getElem?_drop, show merK l.length + (i - merK l.length) = i by omega, ← List.getD_eq_getElem?_getD]
        rw [eg] at e
        rw [e, merR_two h2]
        rfl
theorem merU_root {l : List (List UInt8)} {i : Nat} (hi : i < l.length) : merU l.length i (l.getD i []) (merP l i) = some (merR l) := merU_path l.length l i (Nat.le_refl _) hi

/-- A path is no longer than the height. -/
theorem merP_most : ∀ (m : Nat) (l : List (List UInt8)) (i : Nat), l.length ≤ 2 ^ m → (merP l i).length ≤ m
  | 0, l, i, h => by rw [merP_few i (by simp at h; omega)]; simp
  | m + 1, l, i, h => by
    by_cases h2 : l.length < 2
    · rw [merP_few i h2]; simp
    · have h2 : 2 ≤ l.length := by omega
      have hk := merK_lt h2
      have hl := merK_le h2
      have hm : merK l.length ≤ 2 ^ m := by
        unfold merK at hk ⊢
        have : 2 ^ Nat.log2 (l.length - 1) < 2 ^ (m + 1) := by omega
        have := (Nat.pow_lt_pow_iff_right (by decide : 1 < 2)).1 this
        exact Nat.pow_le_pow_right (by decide) (by omega)
      by_cases hi : i < merK l.length
      · rw [merP_low h2 hi, List.length_append, List.length_singleton]
        have := merP_most m (l.take (merK l.length)) i (by rw [List.length_take]; omega)
        omega
      · rw [merP_high h2 hi, List.length_append, List.length_singleton]
        have := merP_most m (l.drop (merK l.length)) (i - merK l.length) (by rw [List.length_drop]; omega)
        omega
theorem merP_full : ∀ (m : Nat) (l : List (List UInt8)) (i : Nat), l.length = 2 ^ m → (merP l i).length = m
  | 0, l, i, h => by rw [merP_few i (by simp at h; omega)]; rfl
  | m + 1, l, i, h => by
    have hp : 0 < 2 ^ m := Nat.pow_pos (by decide)
    rw [Nat.pow_succ] at h
    have h2 : 2 ≤ l.length := by omega
    have hk : merK l.length = 2 ^ m := merK_of h2 (by omega) (by omega)
    by_cases hi : i < merK l.length
    · rw [merP_low h2 hi, List.length_append, List.length_singleton, merP_full m (l.take (merK l.length)) i (by rw [List.length_take]; omega)]
    · rw [merP_high h2 hi, List.length_append, List.length_singleton, merP_full m (l.drop (merK l.length)) (i - merK l.length) (by rw [List.length_drop]; omega)]

end Go.Proofs.YtcadfccijeodbaaDoor

/- The loops of a hash tree's path, and of its check, as functions on lists, and that they are the path and what it leads to. No program. Each theorem names its own conditions. -/
namespace Go.Proofs.YtcadfccijeodbaaDoor
open Go.RowKit
set_option linter.unusedVariables false

/-- The tree beside the a-th one of a row of trees. -/
def sib (a : Nat) : Nat := if a % 2 = 0 then a + 1 else a - 1
theorem xor_one (a : Nat) : a ^^^ 1 = sib a := by
  have h1 : (a ^^^ 1) / 2 = a / 2 ^^^ 1 / 2 := Nat.xor_div_two
  have h2 : (a ^^^ 1) % 2 = (a + 1) % 2 := by
    have h := Nat.xor_mod_two_pow (a := a) (b := 1) (n := 1)
    rw [Nat.pow_one] at h
    rw [h]
    obtain e | e : a % 2 = 0 ∨ a % 2 = 1 := by omega
    · rw [e, Nat.add_mod, e]
      rfl
    · rw [e, Nat.add_mod, e]
      rfl
  rw [show 1 / 2 = 0 from rfl, Nat.xor_zero] at h1
  unfold sib
  split <;> omega
theorem sib_xor (a j : Nat) : (a * 2 ^ j) ^^^ (2 ^ j) = sib a * 2 ^ j := by
  have h := Nat.shiftLeft_xor_distrib (a := a) (b := 1) (i := j)
  rw [Nat.shiftLeft_eq, Nat.shiftLeft_eq, Nat.shiftLeft_eq, Nat.one_mul, xor_one] at h
  exact h.symm
/-- Where the tree beside begins. -/
def besF (i j : Nat) : Nat := sib (i / 2 ^ j) * 2 ^ j
theorem pow_split {j m : Nat} (h : j < m) : ∃ d, 2 ^ m = (2 * d) * 2 ^ j ∧ 0 < d := by
  refine ⟨2 ^ (m - j - 1), ?_, Nat.pow_pos (by omega)⟩
  rw [Nat.mul_comm 2, ← Nat.pow_succ, ← Nat.pow_add]
  congr 1
  omega
theorem sib_lt {a d : Nat} (h : a < 2 * d) : sib a < 2 * d := by
  unfold sib
  split <;> omega
theorem sib_add (a d : Nat) : sib (2 * d + a) = 2 * d + sib a := by
  unfold sib
  split <;> split <;> omega
theorem besF_low {i j m : Nat} (hj : j < m) (hi : i < 2 ^ m) : besF i j + 2 ^ j ≤ 2 ^ m := by
  obtain ⟨d, hd, _⟩ := pow_split hj
  have hp : 0 < 2 ^ j := Nat.pow_pos (by omega)
  have h1 : i / 2 ^ j < 2 * d := (Nat.div_lt_iff_lt_mul hp).2 (by omega)
  have h2 := sib_lt h1
  unfold besF
  rw [hd, ← Nat.succ_mul]
  exact Nat.mul_le_mul_right _ h2
theorem besF_high {i j m : Nat} (hj : j < m) (hi : 2 ^ m ≤ i) : besF i j = 2 ^ m + besF (i - 2 ^ m) j := by
  obtain ⟨d, hd, _⟩ := pow_split hj
  have hp : 0 < 2 ^ j := Nat.pow_pos (by omega)
  obtain ⟨k, rfl⟩ : ∃ k, i = k + 2 * d * 2 ^ j := ⟨i - 2 ^ m, by omega⟩
  unfold besF
  rw [hd, Nat.add_sub_cancel, Nat.add_mul_div_right _ _ hp, Nat.add_comm (k / 2 ^ j), sib_add, Nat.add_mul]
theorem besF_top_low {i m : Nat} (hi : i < 2 ^ m) : besF i m = 2 ^ m := by
  unfold besF
  rw [Nat.div_eq_of_lt hi]
  show 1 * 2 ^ m = 2 ^ m
  omega
theorem besF_top_high {i m : Nat} (h1 : 2 ^ m ≤ i) (h2 : i < 2 * 2 ^ m) : besF i m = 0 := by
  have hp : 0 < 2 ^ m := Nat.pow_pos (by omega)
  have h : i / 2 ^ m = 1 := by
    have h3 : i / 2 ^ m < 2 := (Nat.div_lt_iff_lt_mul hp).2 h2
    have h4 : 1 ≤ i / 2 ^ m := (Nat.le_div_iff_mul_le hp).2 (by omega)
    omega
  unfold besF
  rw [h]
  show 0 * 2 ^ m = 0
  omega
/-- As the program has it: the place's tree begins at a multiple of its places. -/
theorem besF_xor (i j : Nat) : (i / 2 ^ j * 2 ^ j) ^^^ (2 ^ j) = besF i j := sib_xor _ _

/-- The path's part of one size of trees. -/
def merB (l : List (List UInt8)) (i j : Nat) : List (List UInt8) := if besF i j < l.length then [merR ((l.drop (besF i j)).take (2 ^ j))] else []
/-- The path's parts of the first sizes. -/
def merL (l : List (List UInt8)) (i : Nat) : Nat → List (List UInt8)
  | 0 => []
  | j + 1 => merL l i j ++ merB l i j
theorem merL_low {l : List (List UInt8)} {i m : Nat} (hi : i < 2 ^ m) (hl : 2 ^ m ≤ l.length) : ∀ j, j ≤ m → merL l i j = merL (l.take (2 ^ m)) i j
  | 0, _ => rfl
  | j + 1, h => by
    rw [merL, merL, merL_low hi hl j (by omega)]
    have hb := besF_low (i := i) (j := j) (m := m) (by omega) hi
    have hp : 0 < 2 ^ j := Nat.pow_pos (by omega)
    unfold merB
    rw [if_pos (by omega), if_pos (by rw [List.length_take]; omega), List.drop_take, List.take_take, Nat.min_eq_left (by omega)]
theorem merL_high {l : List (List UInt8)} {i m : Nat} (hi : 2 ^ m ≤ i) (hl : 2 ^ m ≤ l.length) : ∀ j, j ≤ m → merL l i j = merL (l.drop (2 ^ m)) (i - 2 ^ m) j
  | 0, _ => rfl
  | j + 1, h => by
    rw [merL, merL, merL_high hi hl j (by omega)]
    have hb := besF_high (i := i) (j := j) (m := m) (by omega) hi
    unfold merB
    rw [hb, List.length_drop, List.drop_drop]
    by_cases c : 2 ^ m + besF (i - 2 ^ m) j < l.length
    · rw [if_pos c, if_pos (by omega)]
    · rw [if_neg c, if_neg (by omega)]
/-- All of them are the path. -/
theorem merL_path : ∀ (m : Nat) (l : List (List UInt8)) (i : Nat), l.length ≤ 2 ^ m → i < l.length → merL l i m = merP l i
  | 0, l, i, h, hi => by
    rw [merP_few i (by simp at h; omega)]
    rfl
  | m + 1, l, i, h, hi => by
    rw [Nat.pow_succ] at h
    have hp : 0 < 2 ^ m := Nat.pow_pos (by omega)
    rw [merL]
    unfold merB
    by_cases c : l.length ≤ 2 ^ m
    · rw [merL_path m l i c hi, besF_top_low (by omega), if_neg (by omega), List.append_nil]
    · have h2 : 2 ≤ l.length := by omega
      have hk : merK l.length = 2 ^ m := merK_of h2 (by omega) (by omega)
      by_cases e : i < 2 ^ m
      · rw [merP_low h2 (by omega), hk, merL_low e (by omega) m (Nat.le_refl _), merL_path m (l.take (2 ^ m)) i (by rw [List.length_take]; omega) (by rw [List.length_take]; omega),
          besF_top_low e, if_pos (by omega), List.take_of_length_le (l := l.drop (2 ^ m)) (i := 2 ^ m) (by rw [List.length_drop]; omega)]
      · rw [merP_high h2 (by omega), hk, merL_high (by omega) (by omega) m (Nat.le_refl _), merL_path m (l.drop (2 ^ m)) (i - 2 ^ m) (by rw [List.length_drop]; omega) (by rw [List.length_drop]; omega),
          besF_top_high (by omega) (by omega), if_pos (by omega), List.drop_zero]
theorem merL_length (l : List (List UInt8)) (i : Nat) : ∀ j, (merL l i j).length ≤ j
  | 0 => Nat.le_refl _
  | j + 1 => by
    rw [merL, List.length_append]
    have := merL_length l i j
    unfold merB
    split
    · rw [List.length_singleton]; omega
    · rw [List.length_nil]; omega

/-- One size of trees, of the check. -/
def merS (n i j : Nat) (s : List UInt8 × List (List UInt8)) : Option (List UInt8 × List (List UInt8)) :=
  if besF i j < n then (if s.2.length = 0 then none else some (sha256 (1 :: (if i < besF i j then s.1 ++ s.2.headD [] else s.2.headD [] ++ s.1)), s.2.drop 1)) else some s
/-- The first sizes of trees, of the check. -/
def merV (n i : Nat) (b : List UInt8) (p : List (List UInt8)) : Nat → Option (List UInt8 × List (List UInt8))
  | 0 => some (sha256 (0 :: b), p)
  | j + 1 => (merV n i b p j).bind (merS n i j)
theorem merV_low {n i m : Nat} (b : List UInt8) (p : List (List UInt8)) (hi : i < 2 ^ m) (hn : 2 ^ m ≤ n) : ∀ j, j ≤ m → merV n i b p j = merV (2 ^ m) i b p j
  | 0, _ => rfl
  | j + 1, h => by
    rw [merV, merV, merV_low b p hi hn j (by omega)]
    have hb := besF_low (i := i) (j := j) (m := m) (by omega) hi
    have hp : 0 < 2 ^ j := Nat.pow_pos (by omega)
    congr 1
    funext s
    have e1 : besF i j < n := by omega
    have e2 : besF i j < 2 ^ m := by omega
    unfold merS
    rw [if_pos e1, if_pos e2]
theorem merV_high {n i m : Nat} (b : List UInt8) (p : List (List UInt8)) (hi : 2 ^ m ≤ i) (hn : 2 ^ m ≤ n) : ∀ j, j ≤ m → merV n i b p j = merV (n - 2 ^ m) (i - 2 ^ m) b p j
  | 0, _ => rfl
  | j + 1, h => by
    rw [merV, merV, merV_high b p hi hn j (by omega)]
    have hb := besF_high (i := i) (j := j) (m := m) (by omega) hi
    congr 1
    funext s
    unfold merS
    rw [hb]
    have e1 : (2 ^ m + besF (i - 2 ^ m) j < n) = (besF (i - 2 ^ m) j < n - 2 ^ m) := propext (by omega)
    have e2 : (i < 2 ^ m + besF (i - 2 ^ m) j) = (i - 2 ^ m < besF (i - 2 ^ m) j) := propext (by omega)
    simp only [e1, e2]
theorem take_more {α : Type} [Inhabited α] (d : α) {p : List α} {c : Nat} (h : c < p.length) : (p.take (c + 1)).dropLast = p.take c ∧ (p.take (c + 1)).getLastD d = (p.drop c).headD d := by
  have e : p.take (c + 1) = p.take c ++ [p[c]] := by rw [List.take_add_one, List.getElem?_eq_getElem h]; rfl
  refine ⟨by rw [e, List.dropLast_concat], ?_⟩
  rw [e, List.getLastD_concat, List.drop_eq_getElem_cons h]
  rfl
/-- What the check's loop leads to. -/
theorem merV_said : ∀ (m n i : Nat) (b : List UInt8), n ≤ 2 ^ m → i < n → ∃ c, (∀ q : List (List UInt8), q.length ≠ c → merU n i b q = none) ∧ (∀ p : List (List UInt8), p.length < c → merV n i b p m = none) ∧
    (∀ p : List (List UInt8), c ≤ p.length → ∃ h, merU n i b (p.take c) = some h ∧ merV n i b p m = some (h, p.drop c))
  | 0, n, i, b, h, hi => by
    obtain rfl : n = 1 := by simp at h; omega
    refine ⟨0, fun q hq => ?_, fun p hp => by omega, fun p _ => ⟨sha256 (0 :: b), ?_, rfl⟩⟩
    · rw [merU_one, if_neg hq]
    · rw [merU_one, if_pos (by simp)]
  | m + 1, n, i, b, h, hi => by
    rw [Nat.pow_succ] at h
    have hp : 0 < 2 ^ m := Nat.pow_pos (by omega)
    by_cases cn : n ≤ 2 ^ m
    · obtain ⟨c, h1, h2, h3⟩ := merV_said m n i b cn hi
      have hS : ∀ p, merV n i b p (m + 1) = merV n i b p m := fun p => by
        rw [merV]
        cases merV n i b p m with
        | none => rfl
        | some s =>
          show merS n i m s = some s
          unfold merS
          rw [besF_top_low (by omega), if_neg (by omega)]
      exact ⟨c, h1, fun p hq => by rw [hS]; exact h2 p hq, fun p hq => by rw [hS]; exact h3 p hq⟩
    · have hn2 : 2 ≤ n := by omega
      have hk : merK n = 2 ^ m := merK_of hn2 (by omega) (by omega)
      by_cases e : i < 2 ^ m
      · obtain ⟨c, h1, h2, h3⟩ := merV_said m (2 ^ m) i b (Nat.le_refl _) e
        have hV : ∀ p, merV n i b p (m + 1) = (merV (2 ^ m) i b p m).bind (merS n i m) := fun p => by rw [merV, merV_low b p e (by omega) m (Nat.le_refl _)]
        refine ⟨c + 1, fun q hq => ?_, fun p hq => ?_, fun p hq => ?_⟩
        · by_cases z : q.length = 0
          · exact merU_none i b hn2 z
          · rw [merU_low b hn2 z (by omega), hk, h1 q.dropLast (by rw [List.length_dropLast]; omega)]
            rfl
        · rw [hV]
          by_cases z : p.length < c
          · rw [h2 p z]
            rfl
          · obtain ⟨r, _, h5⟩ := h3 p (by omega)
            rw [h5]
            show merS n i m _ = none
            unfold merS
            rw [besF_top_low e, if_pos (by omega), if_pos (by simp only [List.length_drop]; omega)]
        · obtain ⟨r, h4, h5⟩ := h3 p (by omega)
          obtain ⟨t1, t2⟩ := take_more ([] : List UInt8) (p := p) (c := c) (by omega)
          refine ⟨sha256 (1 :: (r ++ (p.drop c).headD [])), ?_, ?_⟩
          · rw [merU_low b hn2 (by rw [List.length_take]; omega) (by omega), hk, t1, t2, h4]
            rfl
          · rw [hV, h5]
            show merS n i m _ = _
            unfold merS
            rw [besF_top_low e, if_pos (by omega), if_neg (by simp only [List.length_drop]; omega), if_pos e, List.drop_drop]
      · obtain ⟨c, h1, h2, h3⟩ := merV_said m (n - 2 ^ m) (i - 2 ^ m) b (by omega) (by omega)
        have hV : ∀ p, merV n i b p (m + 1) = (merV (n - 2 ^ m) (i - 2 ^ m) b p m).bind (merS n i m) := fun p => by rw [merV, merV_high b p (by omega) (by omega) m (Nat.le_refl _)]
        have ht := besF_top_high (i := i) (m := m) (by omega) (by omega)
        refine ⟨c + 1, fun q hq => ?_, fun p hq => ?_, fun p hq => ?_⟩
        · by_cases z : q.length = 0
          · exact merU_none i b hn2 z
          · rw [merU_high b hn2 z (by omega), hk, h1 q.dropLast (by rw [List.length_dropLast]; omega)]
            rfl
        · rw [hV]
          by_cases z : p.length < c
          · rw [h2 p z]
            rfl
          · obtain ⟨r, _, h5⟩ := h3 p (by omega)
            rw [h5]
            show merS n i m _ = none
            unfold merS
            rw [ht, if_pos (by omega), if_pos (by simp only [List.length_drop]; omega)]
        · obtain ⟨r, h4, h5⟩ := h3 p (by omega)
          obtain ⟨t1, t2⟩ := take_more ([] : List UInt8) (p := p) (c := c) (by omega)
          refine ⟨sha256 (1 :: ((p.drop c).headD [] ++ r)), ?_, ?_⟩
          · rw [merU_high b hn2 (by rw [List.length_take]; omega) (by omega), hk, t1, t2, h4]
            rfl
          · rw [hV, h5]
            show merS n i m _ = _
            unfold merS
            rw [ht, if_pos (by omega), if_neg (by simp only [List.length_drop]; omega), if_neg (by omega), List.drop_drop]
/-- The check's answer, of what its loop leads to. -/
def merE (root : List UInt8) : Option (List UInt8 × List (List UInt8)) → Bool
  | none => false
  | some s => decide (s.2.length = 0) && decide (s.1 = root)
theorem merE_said (root : List UInt8) {m n i : Nat} (b : List UInt8) (p : List (List UInt8)) (h : n ≤ 2 ^ m) (hi : i < n) : merE root (merV n i b p m) = decide (merU n i b p = some root) := by
  obtain ⟨c, h1, h2, h3⟩ := merV_said m n i b h hi
  by_cases z : p.length < c
  · rw [h2 p z, h1 p (by omega)]
    rfl
  · obtain ⟨r, h4, h5⟩ := h3 p (by omega)
    rw [h5]
    show (decide ((p.drop c).length = 0) && decide (r = root)) = _
    by_cases y : p.length = c
    · rw [List.take_of_length_le (by omega)] at h4
      rw [h4, decide_eq_true (by rw [List.length_drop]; omega), Bool.true_and]
      exact decide_eq_decide.2 ⟨congrArg some, Option.some.inj⟩
    · rw [h1 p y, decide_eq_false (by rw [List.length_drop]; omega)]
      rfl

end Go.Proofs.YtcadfccijeodbaaDoor

/- The walks of the program's own cut and beside, over bits.Len. Each theorem names its own conditions. -/
namespace Go.Proofs.YtcadfccijeodbaaDoor
open Go.RowKit
set_option linter.unusedVariables false
set_option linter.unusedSimpArgs false

theorem bit_log (x : Nat) (h : x < 2 ^ 64) (h0 : x ≠ 0) : Lib.bitLen x = Nat.log2 x + 1 := by
  induction x using Nat.strongRecOn with
  | _ x ih =>
    rw [Lib.bitLen_half x h0 h, Nat.log2_def x]
    by_cases h2 : 2 ≤ x
    · rw [ih (x / 2) (by omega) (by omega) (by omega), if_pos h2]
      omega
    · obtain rfl : x = 1 := by omega
      simp [Lib.bitLen, Lib.bitLenAux]

set_option maxHeartbeats 4000000 in
set_option maxRecDepth 100000 in
theorem mer_len64 (x : Int) (w : World) (h0 : 0 ≤ x) (h1 : x < 16777216) :
    Calls Tryd.prog 40 #[.int .u64 x] w fun e w' => e = .returned (.int .i64 (Lib.bitLen x.toNat)) ∧ w = w' := by
  have h2 : ¬ 4294967296 ≤ x := by omega
  by_cases c : x < 256
  · have a1 : ¬ 65536 ≤ x := by omega
    have a2 : ¬ 256 ≤ x := by omega
    have a3 : x ≤ 255 := by omega
    clear h1 c
    go_enter Tryd.func40, Tryd.ntmps40
    go_wp2_with fail
    go_ret
    refine ⟨congrArg Ending.returned (congrArg (Value.int IntKind.i64) ?_), rfl⟩
    rw [Lib.len8_of x h0 a3]
    have l := Lib.bitLen_le8' x h0 a3
    unfold wrap64
    omega
  · by_cases d : x < 65536
    · have a1 : ¬ 65536 ≤ x := by omega
      have a2 : 256 ≤ x := by omega
      have a3 : x / 256 ≤ 255 := by omega
      have a4 : 0 ≤ x / 256 := by omega
      have s := Lib.hid (Lib.bitLen_shift8 x.toNat (by omega) (by omega))
      clear h1 c d
      go_enter Tryd.func40, Tryd.ntmps40
      go_wp2_with fail
      go_ret
      refine ⟨congrArg Ending.returned (congrArg (Value.int IntKind.i64) ?_), rfl⟩
      rw [Lib.len8_of (x / 256) a4 a3]
      have l := Lib.bitLen_le8' (x / 256) a4 a3
      have e : (x / 256).toNat = x.toNat / 256 := by omega
      have s := s.out
      rw [e] at l ⊢
      unfold wrap64
      omega
    · have a1 : 65536 ≤ x := by omega
      have a2 : ¬ 256 ≤ x / 65536 := by omega
      have a3 : x / 65536 ≤ 255 := by omega
      have a4 : 0 ≤ x / 65536 := by omega
      have s := Lib.hid (Lib.bitLen_shift16 x.toNat (by omega) (by omega))
      clear h1 c d
      go_enter Tryd.func40, Tryd.ntmps40
      go_wp2_with fail
      go_ret
      refine ⟨congrArg Ending.returned (congrArg (Value.int IntKind.i64) ?_), rfl⟩
      rw [Lib.len8_of (x / 65536) a4 a3]
      have l := Lib.bitLen_le8' (x / 65536) a4 a3
      have e : (x / 65536).toNat = x.toNat / 65536 := by omega
      have s := s.out
      rw [e] at l ⊢
      unfold wrap64
      omega
theorem mer_len (x : Int) (w : World) (h0 : 0 ≤ x) (h1 : x < 16777216) :
    Calls Tryd.prog 32 #[.int .u64 x] w fun e w' => e = .returned (.int .i64 (Lib.bitLen x.toNat)) ∧ w = w' := by
  go_enter Tryd.func32, Tryd.ntmps32
  go_wp2_with (go_at_call 40; refine (mer_len64 x _ h0 h1).mono ?_; rintro e w' ⟨rfl, rfl⟩)
  go_ret
  exact ⟨rfl, rfl⟩
theorem w64n (n : Nat) (h : n < 9223372036854775808) : wrap64 (n : Int) = (n : Int) := by
  rw [← IntWalk.i64_left]
  exact IntWalk.i64_in _ (by omega)
set_option maxHeartbeats 400000 in
theorem mcut_any (n : Nat) (w : World) (h2 : 2 ≤ n) (hn : n ≤ 1048576) :
    Calls Tryd.prog 20 #[.int .i64 (n : Int)] w fun e w' => e = .returned (.int .i64 ((merK n : Nat) : Int)) ∧ w = w' := by
  have HC := Lib.hid (fun w => mer_len ((n - 1 : Nat) : Int) w (by omega) (by omega))
  obtain ⟨k, hk⟩ : ∃ k, k = Nat.log2 (n - 1) := ⟨_, rfl⟩
  have HL : Hid (Lib.bitLen ((n - 1 : Nat) : Int).toNat = k + 1) := Lib.hid (by rw [Int.toNat_natCast, bit_log _ (by omega) (by omega), hk])
  have HK : Hid (merK n = 2 ^ k) := Lib.hid (by unfold merK; rw [hk])
  have k20 : k < 21 := by
    have h := merK_lt h2
    rw [HK.out] at h
    exact (Nat.pow_lt_pow_iff_right (by decide : 1 < 2)).1 (by omega : 2 ^ k < 2 ^ 21)
  have HP : Hid (2 ^ k < 2097152) := Lib.hid (by
    have h := merK_lt h2
    rw [HK.out] at h
    omega)
  rw [HL.out] at HC
  have e1 : (n : Int) - 1 = ((n - 1 : Nat) : Int) := by omega
  clear hk
  go_enter Tryd.func20, Tryd.ntmps20
  go_wp2_with (go_at_call 32; refine (HC.out _).mono ?_; rintro e w' ⟨rfl, rfl⟩)
  go_ret
  refine ⟨congrArg Ending.returned (congrArg (Value.int IntKind.i64) ?_), rfl⟩
  have := HP.out
  have e : (2 : Int) ^ k = ((2 ^ k : Nat) : Int) := (Int.natCast_pow 2 k).symm
  rw [HK.out, e]
  exact w64n _ (by omega)

theorem xor_i64M (a b : Nat) (ha : a < 9223372036854775808) (hb : b < 9223372036854775808) : bits .xor .i64 (a : Int) (b : Int) = ((a ^^^ b : Nat) : Int) := by
  have e1 : (BitVec.ofInt 64 (a : Int)).toNat = a := by rw [BitVec.toNat_ofInt]; omega
  have e2 : (BitVec.ofInt 64 (b : Int)).toNat = b := by rw [BitVec.toNat_ofInt]; omega
  show IntKind.i64.wrap ((BitVec.ofInt 64 (a : Int) ^^^ BitVec.ofInt 64 (b : Int)).toNat : Nat) = _
  have e3 : a ^^^ b < 2 ^ 63 := Nat.xor_lt_two_pow ha hb
  rw [BitVec.toNat_xor, e1, e2, IntKind.wrap_i64]
  omega
theorem bes_num {i s f n : Nat} (hi : i < n) (hs : s < n) (hn : n ≤ 1048576) (hx : (i / s * s) ^^^ s = f) : bits .xor .i64 (wrap64 (wrap64 ((i : Int) / (s : Int)) * (s : Int))) (s : Int) = (f : Int) := by
  have h1 : i / s ≤ i := Nat.div_le_self _ _
  have h2 : i / s * s ≤ i := Nat.div_mul_le_self _ _
  rw [← Int.natCast_ediv, w64n _ (by omega), ← Int.natCast_mul, w64n _ (by omega), xor_i64M _ _ (by omega) (by omega), hx]
theorem bes_lt {i s f n : Nat} (hi : i < n) (hs : s < n) (hn : n ≤ 1048576) (hx : (i / s * s) ^^^ s = f) : f < 2097152 := by
  have h2 : i / s * s ≤ i := Nat.div_mul_le_self _ _
  rw [← hx]
  exact Nat.xor_lt_two_pow (n := 21) (by omega) (by omega)
theorem res_twoM {fn : Func} {i j : Nat} (hf : fn.results = #[.tmp i, .tmp j]) (tmps : Array Value) (w : World) :
    (results fn tmps).run Tryd.prog w = .ok (.tuple #[tmps.getD i undef, tmps.getD j undef]) w := by
  unfold results
  rw [hf]
  simp
/-- What stands beside: from and to. -/
theorem mbeside_any (n i j : Nat) (w : World) (hi : i < n) (hj : 2 ^ j < n) (hn : n ≤ 1048576) :
    Calls Tryd.prog 24 #[.int .i64 (n : Int), .int .i64 (i : Int), .int .i64 ((2 ^ j : Nat) : Int)] w fun e w' => e = .returned (.tuple #[.int .i64 ((besF i j : Nat) : Int), .int .i64 ((min (besF i j + 2 ^ j) n : Nat) : Int)]) ∧ w = w' := by
  have HX := Lib.hid (besF_xor i j)
  have HP : Hid (0 < 2 ^ j) := Lib.hid (Nat.pow_pos (by omega))
  generalize besF i j = f at *
  generalize 2 ^ j = s at *
  have n0 : (0 : Int) ≤ (n : Int) := Int.natCast_nonneg _
  have i0 : (0 : Int) ≤ (i : Int) := Int.natCast_nonneg _
  have s1 : (1 : Int) ≤ (s : Int) := by have := HP.out; omega
  go_enter Tryd.func24, Tryd.ntmps24
  go_wp2_with fail
  refine bodyPost_ret (res_twoM rfl _ _) rfl ⟨congrArg Ending.returned ?_, rfl⟩
  have e1 := bes_num hi hj hn HX.out
  have e2 := bes_lt hi hj hn HX.out
  have e3 : wrap64 ((f : Int) + (s : Int)) = ((f + s : Nat) : Int) := by
    rw [← Int.natCast_add]
    exact w64n _ (by omega)
  have e4 : ((min (f + s) n : Nat) : Int) = min ((f + s : Nat) : Int) (n : Int) := by omega
  rw [e1, e3, e4]
  rfl
end Go.Proofs.YtcadfccijeodbaaDoor

/- Equality of arrays of bytes in a plain region's walk. Nothing here speaks of a program. Each theorem names its own conditions. -/
namespace Go.Proofs.YtcadfccijeodbaaDoor
open Go.RowKit
set_option linter.unusedVariables false

section
variable {P : Program} {ops : Array Oper} {Q : Exit → Act → World → Prop}

/-- Two arrays of bytes, held against each other, in a region that keeps the text's order. -/
theorem wpList_eql {rest : List Oper} {o : Oper} {a : Act} {w : World} (hw : Region.wanted o (yielded ops a.tmps) = true) (b : BinOp) (ty rt e : TypeId) (x y : Operand) (n : Nat) (i : TypeInfo) (xs ys : List UInt8) (r : Bool) (ho : o.op = .binOp b ty x y rt)
    (hb : b = .eql ∧ decide (xs = ys) = r ∨ b = .neq ∧ decide (xs = ys) = !r)
    (hu : P.underlying ty = some (.array n e)) (he : P.underlying e = some (.int .u8)) (hi : P.info? e = some i) (hc : P.cellsOf e = 1) (hg : P.eqGuardType P.depth ty = false)
    (hx : a.eval x = .agg (xs.map bval).toArray) (hy : a.eval y = .agg (ys.map bval).toArray) (lx : xs.length = n) (ly : ys.length = n)
    (next : wpList P ops Q rest (a.put o.dst (.bool r)) w) : wpList P ops Q (o :: rest) a w := by
  refine wpList_step fun K hK => ?_
  rw [if_pos hw]
  have h1 := run_equal_bytes hu he hi hc xs ys lx ly w
  unfold Oper.wp execOp
  rcases hb with ⟨rfl, hb⟩ | ⟨rfl, hb⟩
  · rw [hb] at h1
    simp only [ho, hx, hy]
    simp [eqGuard, hg, binOp, h1]
    exact hK _ _ next
  · rw [hb] at h1
    simp only [ho, hx, hy]
    simp [eqGuard, hg, binOp, h1]
    exact hK _ _ next
end

end Go.Proofs.YtcadfccijeodbaaDoor

/- A whole array is loaded in a region that keeps the text's order, by an operation that another may skip. Nothing here speaks of a program. -/
namespace Go.Proofs.YtcadfccijeodbaaDoor
open Go.RowKit
set_option linter.unusedVariables false

section
variable {P : Program} {ops : Array Oper} {Q : Exit → Act → World → Prop}

theorem wpList_load_w {rest : List Oper} {o : Oper} {a : Act} {w : World} (hw : Region.wanted o (yielded ops a.tmps) = true) (ty : TypeId) (x : Operand) (ho : o.op = .load ty x)
    (c : Nat) (hx : a.eval x = .pointer (some ⟨c, 0, none⟩)) (t : TypeId) (cs : List Value) (n : Nat) (e : TypeId) (hb : Blk w c cs t)
    (hu : P.underlying ty = some (.array n e)) (hi : (P.info? ty).map (·.size) = some cs.length)
    (next : wpList P ops Q rest (a.put o.dst (.agg cs.toArray)) w) : wpList P ops Q (o :: rest) a w := by
  refine wpList_step fun K hK => ?_
  rw [if_pos hw]
  exact wp_load_mid ty x ho c 0 hx cs _ hb.range hu rfl hi (hK _ _ next)
end

end Go.Proofs.YtcadfccijeodbaaDoor

/- Further lemmas on rows of the call's own: one that was just built; append in a plain region by an operation that another may skip. Nothing here speaks of a program. Each theorem names its own conditions. -/
namespace Go.Proofs.YtcadfccijeodbaaDoor
open Go.RowKit
set_option linter.unusedVariables false

section
variable {P : Program} {w w' : World} {v : Value} {vs : List Value}

/-- A slice that was just built is the call's own. -/
theorem own_made (w : World) (c : Array Value) (base : Nat) (e : TypeId) (n : Nat) (l : List Value) (hc : c.toList = l) (hl : l.length = n) (hm : n ≤ maxLen) (hb : base ≤ w.heap.size) : (w.alloc (.cells c e)).ownsRow base e 1 (.slice (some ⟨w.heap.size, 0, none⟩) n n) n l := by
  subst hl; subst hc
  refine ⟨by simp, Or.inr ⟨w.heap.size, c.toList.length, c, rfl, hb, heap_alloc_new w _, Nat.le_refl _, hm, by simp, by rw [Nat.mul_one]; exact List.take_of_length_le (Nat.le_refl _)⟩⟩
theorem ext_own {a b d : World} {base : Nat} {e : TypeId} {n : Nat} {x : Value} {xs : List Value} (h : Ext a b) (ho : b.ownsRow base e 1 x n xs) (hb : a.heap.size ≤ base) (hg : b.grownBy d x.ownBlock) : Ext a d :=
  Below.grown h hg h.size (fun r hr => by
    obtain ⟨_, h1 | ⟨g, cap, cur, rfl, h2, _⟩⟩ := ho
    · obtain ⟨rfl, _⟩ := h1
      cases hr
    · cases hr
      exact Nat.le_trans hb h2)

/-- append of whatever reads as a list, where another operation may skip it. -/
theorem wpList_append_w {ops : Array Oper} {rest : List Oper} {o : Oper} {a : Act} {Q : Exit → Act → World → Prop} (hw : Region.wanted o (yielded ops a.tmps) = true) (s y : Operand) (t : TypeId)
    (ho : o.op = .call { callee := .builtin .append, args := #[s, y], argTypes := #[t, t] })
    (base : Nat) (e : TypeId) (i : TypeInfo) (z : Value) (bytes : Nat) (ht : P.underlying t = some (.slice e)) (hi : P.info? e = some i) (hz : i.zero = some z)
    (hsize : i.size = 1) (hby : i.bytes = bytes) (hzs : z.cells.size = 1)
    (x : Value) (n : Nat) (xs : List Value) (hs : a.eval s = x) (hown : w.ownsRow base e 1 x n xs)
    (hx : a.eval y = v) (hv : Row1 w v vs) (h1 : ∀ u ∈ vs, u.oneCell' = true)
    (h63 : n + vs.length ≤ maxLen) (hbytes : (n + vs.length) * bytes ≤ 140737488355328) (hbase : base ≤ w.heap.size)
    (h : ∀ x' w', w'.ownsRow base e 1 x' (n + vs.length) (xs ++ vs) → w.grownBy w' x.ownBlock → wpList P ops Q rest (a.put o.dst x') w') : wpList P ops Q (o :: rest) a w := by
  refine wpList_step fun K hK => ?_
  rw [if_pos hw]
  exact wp_append_row s y t ho base e i z bytes ht hi hz hsize hby hzs x n xs hs hown hx hv h1 h63 hbytes hbase fun x' w' h2 h3 => hK _ _ (h x' w' h2 h3)
end

end Go.Proofs.YtcadfccijeodbaaDoor

/- s[n:] of whatever reads as a list, whatever its address. Nothing here speaks of a program. Each theorem names its own conditions. -/
namespace Go.Proofs.YtcadfccijeodbaaDoor
open Go.RowKit
set_option linter.unusedVariables false

section
variable {P : Program} {w : World}
theorem row_cut {t e : TypeId} (ht : P.underlying t = some (.slice e)) (hs : ∀ w, (sizeOf e).run P w = .ok 1 w) {v : Value} {vs : List Value} (h : Row1 w v vs) (n : Nat) (hn : n ≤ vs.length) :
    ∃ v', Row1 w v' (vs.drop n) ∧ ∀ w', (Instr.sliceAt t v (some (.int .i64 (n : Int))) none none).run P w' = .ok v' w' := by
  obtain ⟨a, cap, rfl, h1, h2, h3, h4⟩ := h
  have e2 : P.elem t = e := by unfold Program.elem; rw [ht]
  have ht2 : P.underlying t = some (.slice (P.elem t)) := by rw [e2]; exact ht
  have hr : ∀ w', (Instr.sliceAt t (.slice a vs.length cap) (some (.int .i64 (n : Int))) none none).run P w' = .ok (sliced a n vs.length cap 1) w' := fun w' => by
    rw [run_sliceAt_slice w' t _ _ _ _ ht2, run_slice_l (ht := ht2) (kl := .i64) (l := (n : Int)) (h0 := by omega) (h1 := by omega), e2, hs]
    simp
  refine ⟨_, ?_, hr⟩
  have hl : (vs.drop n).length = vs.length - n := by simp
  unfold sliced
  by_cases hc : cap = n
  · rw [if_pos hc]
    have hv : vs.drop n = [] := List.drop_eq_nil_of_le (by omega)
    rw [hv]
    refine ⟨a, cap - n, by rw [show vs.length - n = 0 from by omega]; rfl, Nat.zero_le _, by omega, fun e => by have := h3 e; omega, fun h => absurd rfl h⟩
  · rw [if_neg hc]
    refine ⟨a.map (·.add (n * 1)), cap - n, by rw [hl], by rw [hl]; omega, by omega, fun e => ?_, fun hne => ?_⟩
    · cases a with
      | none => have := h3 rfl; omega
      | some a => cases e
    · have hne2 : vs ≠ [] := by rintro rfl; simp at hne
      obtain ⟨b, off, rfl, g1, g2⟩ := h4 hne2
      refine ⟨b, off + n, by rw [Option.map_some, WideShapes.add_plain, Nat.mul_one], g1, fun i hi => ?_⟩
      rw [hl] at hi
      rw [Nat.add_assoc, g2 (n + i) (by omega), List.getElem?_drop]
/-- A part of what reads as a list, by the address that slicing makes of it. -/
theorem row_sliced {a : Option Addr} {cap : Nat} {vs : List Value} (h : Row1 w (.slice a vs.length cap) vs) (i k : Nat) (hik : i ≤ k) (hk : k ≤ vs.length) : Row1 w (sliced a i k cap 1) ((vs.drop i).take (k - i)) := by
  obtain ⟨a0, cap0, e0, h1, h2, h3, h4⟩ := h
  cases e0
  have hl : ((vs.drop i).take (k - i)).length = k - i := by simp; omega
  unfold sliced
  by_cases hc : cap = i
  · rw [if_pos hc]
    have hv : (vs.drop i).take (k - i) = [] := List.eq_nil_of_length_eq_zero (by omega)
    rw [hv]
    refine ⟨a, cap - i, by rw [show k - i = 0 from by omega]; rfl, Nat.zero_le _, by omega, fun e => by have := h3 e; omega, fun h => absurd rfl h⟩
  · rw [if_neg hc]
    refine ⟨a.map (·.add (i * 1)), cap - i, by rw [hl], by rw [hl]; omega, by omega, fun e => ?_, fun hne => ?_⟩
    · cases a with
      | none => have := h3 rfl; omega
      | some a => cases e
    · have hne2 : vs ≠ [] := by rintro rfl; simp at hne
      obtain ⟨b, off, rfl, g1, g2⟩ := h4 hne2
      refine ⟨b, off + i, by rw [Option.map_some, WideShapes.add_plain, Nat.mul_one], g1, fun j hj => ?_⟩
      rw [hl] at hj
      rw [Nat.add_assoc, g2 (i + j) (by omega), List.getElem?_take, if_pos hj, List.getElem?_drop]
/-- s[:k]. -/
theorem row_upto {t e : TypeId} (ht : P.underlying t = some (.slice e)) (hs : ∀ w, (sizeOf e).run P w = .ok 1 w) {v : Value} {vs : List Value} (h : Row1 w v vs) (k : Nat) (hk : k ≤ vs.length) :
    ∃ v', Row1 w v' (vs.take k) ∧ ∀ w', (Instr.sliceAt t v none (some (.int .i64 (k : Int))) none).run P w' = .ok v' w' := by
  obtain ⟨a, cap, rfl, h1, _⟩ := id h
  have e2 : P.elem t = e := by unfold Program.elem; rw [ht]
  have ht2 : P.underlying t = some (.slice (P.elem t)) := by rw [e2]; exact ht
  refine ⟨sliced a 0 k cap 1, by simpa using row_sliced h 0 k (Nat.zero_le _) hk, fun w' => ?_⟩
  rw [run_sliceAt_slice w' t _ _ _ _ ht2, run_slice_h (ht := ht2) (kh := .i64) (h := (k : Int)) (h0 := by omega) (h2 := by omega), e2, hs]
  simp
/-- s[i:k]. -/
theorem row_mid {t e : TypeId} (ht : P.underlying t = some (.slice e)) (hs : ∀ w, (sizeOf e).run P w = .ok 1 w) {v : Value} {vs : List Value} (h : Row1 w v vs) (i k : Nat) (hik : i ≤ k) (hk : k ≤ vs.length) :
    ∃ v', Row1 w v' ((vs.drop i).take (k - i)) ∧ ∀ w', (Instr.sliceAt t v (some (.int .i64 (i : Int))) (some (.int .i64 (k : Int))) none).run P w' = .ok v' w' := by
  obtain ⟨a, cap, rfl, h1, _⟩ := id h
  have e2 : P.elem t = e := by unfold Program.elem; rw [ht]
  have ht2 : P.underlying t = some (.slice (P.elem t)) := by rw [e2]; exact ht
  refine ⟨sliced a i k cap 1, row_sliced h i k hik hk, fun w' => ?_⟩
  rw [run_sliceAt_slice w' t _ _ _ _ ht2, run_slice_lh (ht := ht2) (kl := .i64) (kh := .i64) (l := (i : Int)) (h := (k : Int)) (h0 := by omega) (h1 := by omega) (h2 := by omega), e2, hs]
  simp
/-- Rows of rows. -/
theorem rowB1 {v x : Value} {l : List UInt8} (h : Row1 w v [x]) (hx : Row1 w x (l.map bval)) : RowB w v [l] :=
  ⟨_, h, rfl, fun i y k hy hk => by
    match i with
    | 0 => simp at hy hk; subst hy; subst hk; exact hx
    | i + 1 => simp at hy⟩
theorem rowB2 {v x y : Value} {l m : List UInt8} (h : Row1 w v [x, y]) (hx : Row1 w x (l.map bval)) (hy : Row1 w y (m.map bval)) : RowB w v [l, m] :=
  ⟨_, h, rfl, fun i u k hu hk => by
    match i with
    | 0 => simp at hu hk; subst hu; subst hk; exact hx
    | 1 => simp at hu hk; subst hu; subst hk; exact hy
    | i + 2 => simp at hu⟩
theorem rowB3 {v x y z : Value} {l m n : List UInt8} (h : Row1 w v [x, y, z]) (hx : Row1 w x (l.map bval)) (hy : Row1 w y (m.map bval)) (hz : Row1 w z (n.map bval)) : RowB w v [l, m, n] :=
  ⟨_, h, rfl, fun i u k hu hk => by
    match i with
    | 0 => simp at hu hk; subst hu; subst hk; exact hx
    | 1 => simp at hu hk; subst hu; subst hk; exact hy
    | 2 => simp at hu hk; subst hu; subst hk; exact hz
    | i + 3 => simp at hu⟩
theorem rowB4 {v x y z u : Value} {l m n o : List UInt8} (h : Row1 w v [x, y, z, u]) (hx : Row1 w x (l.map bval)) (hy : Row1 w y (m.map bval)) (hz : Row1 w z (n.map bval)) (hu : Row1 w u (o.map bval)) : RowB w v [l, m, n, o] :=
  ⟨_, h, rfl, fun i q k hq hk => by
    match i with
    | 0 => simp at hq hk; subst hq; subst hk; exact hx
    | 1 => simp at hq hk; subst hq; subst hk; exact hy
    | 2 => simp at hq hk; subst hq; subst hk; exact hz
    | 3 => simp at hq hk; subst hq; subst hk; exact hu
    | i + 4 => simp at hq⟩
/-- A new block of cells that bears a mark, as a row. -/
theorem Row1.made_mark (w : World) (c : Array Value) (e : TypeId) (fr : Nat × Nat) (n m : Nat) (l : List Value) (hn : w.heap.size = n) (hc : c.toList = l) (hl : l.length = m) (hm : m ≤ maxLen) : Row1 (w.alloc (.cells c e fr)) (.slice (some ⟨n, 0, none⟩) m m) l := by
  subst hn; subst hl; subst hc
  refine ⟨_, _, rfl, Nat.le_refl _, hm, (fun e => by cases e), fun _ => ⟨w.heap.size, 0, rfl, by simp, fun i hi => ?_⟩⟩
  rw [Nat.zero_add, World.cell?_alloc_mark]
  simp
/-- A whole array, as a row. -/
theorem blk_row {c n : Nat} {cs : List Value} {t : TypeId} (h : Blk w c cs t) (hn : cs.length = n) (hm : n ≤ maxLen) : Row1 w (.slice (some ⟨c, 0, none⟩) n n) cs := by
  subst hn
  exact ⟨_, _, rfl, Nat.le_refl _, hm, (fun e => by cases e), fun _ => ⟨c, 0, rfl, h.lt, fun i _ => by rw [Nat.zero_add, h.cell]⟩⟩
/-- a[:] of an array that is a variable. -/
theorem cut_whole {t : TypeId} {n : Nat} {e : TypeId} (ht : P.underlying t = some (.array n e)) (h : ∀ w, (sizeOf e).run P w = .ok 1 w) (hn : 0 < n) (A : Nat) (w : World) :
    (Instr.sliceAt t (.pointer (some ⟨A, 0, none⟩)) none none none).run P w = .ok (.slice (some ⟨A, 0, none⟩) n n) w := by
  have e1 : P.arrayLen t = n := by unfold Program.arrayLen; rw [ht]
  have e2 : P.elem t = e := by unfold Program.elem; rw [ht]
  rw [run_sliceAt_array_all w t ⟨A, 0, none⟩ (by rw [e1, e2]; exact ht), e2, h, e1]
  simp [slicedAt, Addr.add, show ¬ n = 0 by omega]
end

end Go.Proofs.YtcadfccijeodbaaDoor
