/- Texts that belong together, one behind the other. -/
import Derived.WalkKit
import Derived.WalkSpells
import Derived.WalkLawsBesides
import Derived.Lib.Hide
import Derived.Deep.QuietTactic
import Derived.BigQuiet
import Derived.Deep.RegionHeld3
import Derived.Deep.AppendLies
import Derived.OneCell
import Derived.ProofKit
import Derived.Deep.Slices
import Derived.Laws.Cover2
import Derived.OpenShut
import Derived.Test.YtckggbkoabmjiaaDoorRows
import Derived.Deep.MidRow
import Derived.LaidMore
import Derived.Stop.Joined
import Derived.SevenTiedAt
import Derived.Deep.Quiet
import Derived.OrdersHeld
import Derived.Deep.RegionHeld
import Derived.ChangeKeysEq
import Derived.Laws.ResultCell
import Derived.KernelRfl
import Derived.Great.BuildSlice
import Derived.Laws.Tables
namespace Go.Proofs.YtckggbkoabmjiaaDoor
set_option linter.unusedVariables false
set_option linter.unusedSimpArgs false
open Go.RowKit
theorem nrm {α : Type} : (∀ (l : List α) (i : Nat) (h : i < l.toArray.size), l.toArray[i] = l[i]'(by simpa using h)) ∧ (∀ (a : α) (l : List α) (h : 0 < (a :: l).length), (a :: l)[0] = a) ∧ (∀ (a : α) (l : List α) (i : Nat) (h : i + 1 < (a :: l).length), (a :: l)[i + 1] = l[i]'(by simpa using h)) ∧
  (∀ (l : List α) (i : Nat) (a : α), l.toArray.setIfInBounds i a = (l.set i a).toArray) ∧ (∀ (a b : α) (l : List α), (a :: l).set 0 b = b :: l) ∧ (∀ (a b : α) (l : List α) (i : Nat), (a :: l).set (i + 1) b = a :: l.set i b) :=
 ⟨fun _ _ _ => by simp, fun _ _ _ => rfl, fun _ _ _ _ => rfl, fun _ _ _ => by simp, fun _ _ _ => rfl, fun _ _ _ _ => rfl⟩
section
def Row1 (w : World) (v : Value) (vs : List Value) : Prop :=
 ∃ a cap, v = .slice a vs.length cap ∧ vs.length ≤ cap ∧ cap ≤ maxLen ∧ (a = none → cap = 0) ∧ (vs ≠ [] → ∃ b off, a = some ⟨b, off, none⟩ ∧ b < w.heap.size ∧ ∀ i, i < vs.length → w.cell? ⟨b, off + i, none⟩ = vs[i]?)
section
variable {P : Program} {w w' : World} {v : Value} {vs : List Value}
theorem Row1.nil (w : World) : Row1 w (.slice none 0 0) [] := ⟨none, 0, rfl, Nat.le_refl _, Nat.zero_le _, fun _ => rfl, fun h => absurd rfl h⟩
theorem Row1.same (h : Row1 w v vs) (hs : w.heap.size ≤ w'.heap.size) (hc : ∀ p : Addr, v.ownBlock = some p.block → p.block < w.heap.size → w'.cell? p = w.cell? p) : Row1 w' v vs := by
 obtain ⟨a, cap, rfl, h1, h2, h3, h4⟩ := h
 refine ⟨a, cap, rfl, h1, h2, h3, fun hne => ?_⟩
 obtain ⟨b, off, rfl, hb, hcell⟩ := h4 hne
 exact ⟨b, off, rfl, Nat.lt_of_lt_of_le hb hs, fun i hi => (hc ⟨b, off + i, none⟩ rfl hb).trans (hcell i hi)⟩
theorem Row1.below (h : Row1 w v vs) (hb : Below w.heap.size w w') : Row1 w' v vs := h.same hb.size fun _ _ hp => hb.cell hp
theorem below_drewN {B : Nat} {a : World} (h : Below B a w) (n : Nat) : Below B a (w.drewN n) := h.trans ⟨rfl, rfl, rfl, Nat.le_refl _, fun _ _ => rfl⟩
theorem Row1.of_own {base : Nat} {e : TypeId} {n : Nat} (h : w.ownsRow base e 1 v n vs) : Row1 w v vs := by
 have hl : vs.length = n := by have := h.1; omega
 rcases h.2 with ⟨rfl, h0⟩ | ⟨g, cap, cur, rfl, hb, hg, h1, h2, _, _⟩
 ·have : vs = [] := List.eq_nil_of_length_eq_zero (by omega)
  subst this
  exact Row1.nil w
 ·refine ⟨some ⟨g, 0, none⟩, cap, by rw [hl], by omega, h2, (fun e => by cases e), fun _ => ⟨g, 0, rfl, (h.lt g rfl).2, fun i hi => ?_⟩⟩
  rw [Nat.zero_add]
  exact h.cellAt i (by omega)
theorem run_append_row (t ty e : TypeId) (i : TypeInfo) (z : Value) (bytes : Nat) (ht : P.underlying t = some (.slice e)) (hi : P.info? e = some i) (hz : i.zero = some z)
  (hsize : i.size = 1) (hby : i.bytes = bytes) (hzs : z.cells.size = 1) (base : Nat) (x : Value) (n : Nat) (xs : List Value) (hown : w.ownsRow base e 1 x n xs)
  (hv : Row1 w v vs) (h1 : ∀ u ∈ vs, u.oneCell' = true) (h63 : n + vs.length ≤ maxLen) (hbytes : (n + vs.length) * bytes ≤ 140737488355328) (hbase : base ≤ w.heap.size) :
  ∃ x' w', (Builtin.append_ #[t, t] ty #[x, v]).run P w = .ok x' w' ∧ w'.ownsRow base e 1 x' (n + vs.length) (xs ++ vs) ∧ w.grownBy w' x.ownBlock := by
 obtain ⟨a, cap, rfl, hc1, hc2, hc3, hc4⟩ := hv
 cases a with
 | none =>
  have hcap := hc3 rfl
  have : vs = [] := List.eq_nil_of_length_eq_zero (by omega)
  subst this
  subst hcap
  refine ⟨x, w, run_append_owned_none w base t ty e i 1 ht hi x n xs hown, ?_, World.grownBy.refl _ _⟩
  simpa using hown
 | some ad =>
  have hnews : ∀ j u, vs[j]? = some u → w.cell? (ad.add j) = some u := by
   intro j u hu
   have hne : vs ≠ [] := by intro e; subst e; simp at hu
   obtain ⟨b, off, he, hb, hcell⟩ := hc4 hne
   cases he
   have hj : j < vs.length := by
    rcases Nat.lt_or_ge j vs.length with h | h
    ·exact h
    ·rw [List.getElem?_eq_none h] at hu; cases hu
   rw [WideShapes.add_plain, hcell j hj, hu]
  obtain ⟨x', w', hr, h2, h3, _⟩ := run_append_own (P := P) w base t ty e i z 1 bytes ht hi hz hsize hby hzs (by omega) x n xs hown ad vs.length cap vs (by omega) hnews h1 h63 hbytes hbase
  exact ⟨x', w', hr, h2, h3⟩
theorem wp_append_row {o : Oper} {a : Act} {K : Act → World → Prop} {Q : Exit → Act → World → Prop} (s y : Operand) (t : TypeId)
  (ho : o.op = .call { callee := .builtin .append, args := #[s, y], argTypes := #[t, t] })
  (base : Nat) (e : TypeId) (i : TypeInfo) (z : Value) (bytes : Nat) (ht : P.underlying t = some (.slice e)) (hi : P.info? e = some i) (hz : i.zero = some z)
  (hsize : i.size = 1) (hby : i.bytes = bytes) (hzs : z.cells.size = 1)
  (x : Value) (n : Nat) (xs : List Value) (hs : a.eval s = x) (hown : w.ownsRow base e 1 x n xs)
  (hx : a.eval y = v) (hv : Row1 w v vs) (h1 : ∀ u ∈ vs, u.oneCell' = true)
  (h63 : n + vs.length ≤ maxLen) (hbytes : (n + vs.length) * bytes ≤ 140737488355328) (hbase : base ≤ w.heap.size)
  (h : ∀ x' w', w'.ownsRow base e 1 x' (n + vs.length) (xs ++ vs) → w.grownBy w' x.ownBlock → K (a.put o.dst x') w') : o.wp P a w K Q := by
 obtain ⟨x', w', hr, h2, h3⟩ := run_append_row (P := P) (w := w) t o.type e i z bytes ht hi hz hsize hby hzs base x n xs hown hv h1 h63 hbytes hbase
 unfold Oper.wp execOp
 simp only [ho, resolve, invoke, builtin, Sem.run_bind, Sem.run_pure, Result.andThen_ok, List.map_toArray, List.map_cons, List.map_nil, hs, hx, hr]
 exact h x' w' h2 h3
theorem wpList_append_row {ops : Array Oper} {rest : List Oper} {o : Oper} {a : Act} {Q : Exit → Act → World → Prop} (hgd : o.guard = none) (s y : Operand) (t : TypeId)
  (ho : o.op = .call { callee := .builtin .append, args := #[s, y], argTypes := #[t, t] })
  (base : Nat) (e : TypeId) (i : TypeInfo) (z : Value) (bytes : Nat) (ht : P.underlying t = some (.slice e)) (hi : P.info? e = some i) (hz : i.zero = some z)
  (hsize : i.size = 1) (hby : i.bytes = bytes) (hzs : z.cells.size = 1)
  (x : Value) (n : Nat) (xs : List Value) (hs : a.eval s = x) (hown : w.ownsRow base e 1 x n xs)
  (hx : a.eval y = v) (hv : Row1 w v vs) (h1 : ∀ u ∈ vs, u.oneCell' = true)
  (h63 : n + vs.length ≤ maxLen) (hbytes : (n + vs.length) * bytes ≤ 140737488355328) (hbase : base ≤ w.heap.size)
  (h : ∀ x' w', w'.ownsRow base e 1 x' (n + vs.length) (xs ++ vs) → w.grownBy w' x.ownBlock → wpList P ops Q rest (a.put o.dst x') w') : wpList P ops Q (o :: rest) a w :=
 wpList_plain hgd fun _ hK => wp_append_row s y t ho base e i z bytes ht hi hz hsize hby hzs x n xs hs hown hx hv h1 h63 hbytes hbase fun x' w' h2 h3 => hK _ _ (h x' w' h2 h3)
theorem Row1.made (w : World) (c : Array Value) (e : TypeId) (n m : Nat) (l : List Value) (hn : w.heap.size = n) (hc : c.toList = l) (hl : l.length = m) (hm : m ≤ maxLen) : Row1 (w.alloc (.cells c e)) (.slice (some ⟨n, 0, none⟩) m m) l := by
 subst hn; subst hl; subst hc
 refine ⟨_, _, rfl, Nat.le_refl _, hm, (fun e => by cases e), fun _ => ⟨w.heap.size, 0, rfl, by simp, fun i hi => ?_⟩⟩
 rw [Nat.zero_add, World.cell?_alloc_at _ _ _ _ rfl]
 simp
def Blk (w : World) (c : Nat) (cs : List Value) (t : TypeId) : Prop := w.heap[c]? = some (.cells cs.toArray t (0, 0))
theorem Blk.cell {c : Nat} {cs : List Value} {t : TypeId} (h : Blk w c cs t) (i : Nat) : w.cell? ⟨c, i, none⟩ = cs[i]? := by
 unfold Blk at h
 simp [World.cell?, h]
theorem Blk.free {c : Nat} {cs : List Value} {t : TypeId} (h : Blk w c cs t) (i : Nat) : w.frozen? ⟨c, i, none⟩ = false := by
 unfold Blk at h
 simp [World.frozen?, h]
theorem Blk.lt {c : Nat} {cs : List Value} {t : TypeId} (h : Blk w c cs t) : c < w.heap.size := lt_of_block h
theorem Blk.set {c : Nat} {cs : List Value} {t : TypeId} (h : Blk w c cs t) (i : Nat) (u : Value) : Blk (w.setCell ⟨c, i, none⟩ u) c (cs.set i u) t := by
 have := heap_setCell_same w c i cs.toArray t u h
 unfold Blk
 rw [this]
 simp
theorem Blk.same {c : Nat} {cs : List Value} {t : TypeId} (h : Blk w c cs t) (he : w'.heap[c]? = w.heap[c]?) : Blk w' c cs t := he.trans h
theorem Blk.drewN {c : Nat} {cs : List Value} {t : TypeId} (h : Blk w c cs t) (n : Nat) : Blk (w.drewN n) c cs t := h
theorem Blk.grown {c : Nat} {cs : List Value} {t : TypeId} {row : Option Nat} (h : Blk w c cs t) (hg : w.grownBy w' row) (hne : row ≠ some c) : Blk w' c cs t :=
 h.same (hg.block c h.lt (fun e => hne e.symm))
theorem Blk.made (w : World) (cs : List Value) (t : TypeId) : Blk (w.alloc (.cells cs.toArray t)) w.heap.size cs t := heap_alloc_new w _
theorem grownBy_trans {a b d : World} {row : Option Nat} (h : a.grownBy b row) (g : b.grownBy d row) : a.grownBy d row :=
 ⟨g.os.trans h.os, g.tape.trans h.tape, g.output.trans h.output, Nat.le_trans h.size g.size, fun k hk hr => (g.block k (Nat.lt_of_lt_of_le hk h.size) hr).trans (h.block k hk hr)⟩
theorem grownBy_set {a b : World} {c : Nat} (h : a.grownBy b (some c)) (i : Nat) (u : Value) : a.grownBy (b.setCell ⟨c, i, none⟩ u) (some c) :=
 ⟨h.os, h.tape, h.output, by simpa [World.setCell] using h.size, fun k hk hr => (heap_setCell_other b ⟨c, i, none⟩ k u (fun e => hr (by rw [e]))).trans (h.block k hk hr)⟩
theorem grownBy_refl (a : World) (row : Option Nat) : a.grownBy a row := World.grownBy.refl a row
theorem grown_of_below {a b : World} (h : Below a.heap.size a b) (row : Option Nat) : a.grownBy b row :=
 ⟨h.os, h.tape, h.output, h.size, fun k hk _ => h.block k hk⟩
def bval (b : UInt8) : Value := .int .u8 (b.toNat : Int)
theorem bval_one (l : List UInt8) : ∀ u ∈ l.map bval, u.oneCell' = true := by
 intro u hu
 obtain ⟨c, _, rfl⟩ := List.mem_map.1 hu
 rfl
def RowB (w : World) (v : Value) (ls : List (List UInt8)) : Prop :=
 ∃ vals : List Value, Row1 w v vals ∧ vals.length = ls.length ∧ ∀ (i : Nat) (x : Value) (l : List UInt8), vals[i]? = some x → ls[i]? = some l → Row1 w x (l.map bval)
theorem RowB.below {ls : List (List UInt8)} (h : RowB w v ls) (hb : Below w.heap.size w w') : RowB w' v ls := by
 obtain ⟨vals, h1, h2, h3⟩ := h
 exact ⟨vals, h1.below hb, h2, fun i x l hx hl => (h3 i x l hx hl).below hb⟩
end
end
section
open Go.ChangeShapes Go.WideShapes Go.ChangeAt Go.RowKit
theorem trodAll_len {H : Type} {enc : TypeId × Value → H} {P : Program} {w : World} {base : Nat} {sp : Nat → Bool} {held : Bool} :
  ∀ {ts : List TypeId} {vs : List Value} {ds : List (DataW H)} {ps : List MemPlace}, DataW.TrodAll enc P w base sp held ts vs ds ps → ds.length = ts.length
 | [], _, _, _, h => by
  obtain ⟨rfl, rfl, rfl⟩ := trodAll_nil h
  rfl
 | _ :: _, _, _, _, h => by
  obtain ⟨v, vs1, d, ds1, a, b, rfl, rfl, rfl, g1, g2⟩ := trodAll_cons h
  simp [trodAll_len g2]
theorem trodAll_stays {H : Type} {enc : TypeId × Value → H} {P : Program} (hl : laidOutB P = true) {W W' : World} {base : Nat} {sp' : Nat → Bool} :
  ∀ {ts : List TypeId} {vs : List Value} {ds : List (DataW H)} {ps : List MemPlace}, (ts.all fun t => P.readableRec t && decide (t < P.types.size)) = true →
  DataW.TrodAll enc P W base (fun _ => true) true ts vs ds ps → (∀ p ∈ ps, W.sameAt W' p) → (∀ p ∈ ps, sp' p.block = true) → DataW.TrodAll enc P W' base sp' true ts vs ds ps
 | [], _, _, _, _, h, _, _ => by
  obtain ⟨rfl, rfl, rfl⟩ := trodAll_nil h
  exact trodAll_mk0
 | t :: ts, _, _, _, hr, h, h1, h2 => by
  obtain ⟨v, vs1, d, ds1, a, b, rfl, rfl, rfl, g1, g2⟩ := trodAll_cons h
  rw [List.all_cons, Bool.and_eq_true, Bool.and_eq_true] at hr
  obtain ⟨⟨r1, r2⟩, r3⟩ := hr
  exact ⟨a, b, WideElems.Trod_stays hl r1 (of_decide_eq_true r2) g1 (fun p hp => h1 p (List.mem_append_left _ hp)) (fun p hp => h2 p (List.mem_append_left _ hp)),
   trodAll_stays hl r3 g2 (fun p hp => h1 p (List.mem_append_right _ hp)) (fun p hp => h2 p (List.mem_append_right _ hp)), rfl⟩
theorem law_own : ownKnob Tryd.prog.godebug = none := by kernel_rfl
theorem law_laid : laidOutB Tryd.prog = true := by kernel_rfl
end
section
section
variable {P : Program} {w w' : World}
def laid : List Value → Nat → List Value → List Value
 | cs, _, [] => cs
 | cs, o, v :: r => laid (cs.set o v) (o + 1) r
theorem laid_get : ∀ (vs cs : List Value) (o : Nat), o + vs.length ≤ cs.length → ∀ i, (laid cs o vs)[i]? = if o ≤ i ∧ i < o + vs.length then vs[i - o]? else cs[i]?
 | [], cs, o, h, i => by simp [laid]; omega
 | v :: r, cs, o, h, i => by
  rw [List.length_cons] at h
  rw [laid, laid_get r _ _ (by simp; omega)]
  by_cases h1 : i = o
  ·subst h1
   rw [if_neg (by omega), if_pos (by simp), List.getElem?_set_self (by omega)]
   simp
  ·by_cases h2 : o + 1 ≤ i ∧ i < o + 1 + r.length
   ·rw [if_pos h2, if_pos (by rw [List.length_cons]; omega), show i - o = (i - (o + 1)) + 1 from by omega]
    simp
   ·rw [if_neg h2, if_neg (by rw [List.length_cons]; omega), List.getElem?_set_ne (by omega)]
theorem laid_all (cs vs : List Value) (h : vs.length = cs.length) : laid cs 0 vs = vs := by
 apply List.ext_getElem?
 intro i
 rw [laid_get _ _ _ (by omega)]
 by_cases hi : i < vs.length
 ·rw [if_pos (by omega)]
  simp
 ·rw [if_neg (by omega), List.getElem?_eq_none (by omega), List.getElem?_eq_none (by omega)]
theorem Blk.setCells {c : Nat} {t : TypeId} : ∀ (vs : List Value) (cs : List Value) (o : Nat) (w : World), Blk w c cs t → Blk (w.setCells c o vs) c (laid cs o vs) t
 | [], _, _, _, h => h
 | v :: r, cs, o, w, h => Blk.setCells r (cs.set o v) (o + 1) _ (h.set o v)
theorem grownBy_setCells {c : Nat} : ∀ (vs : List Value) (o : Nat) (a b : World), a.grownBy b (some c) → a.grownBy (b.setCells c o vs) (some c)
 | [], _, _, _, h => h
 | v :: r, o, a, b, h => grownBy_setCells r (o + 1) a _ (grownBy_set h o v)
theorem Blk.there {c : Nat} {cs : List Value} {t : TypeId} (h : Blk w c cs t) (n : Nat) (hn : n ≤ cs.length) : w.there c 0 n := fun j hj => by
 rw [Nat.zero_add]
 refine ⟨?_, h.free j⟩
 rw [h.cell j, List.getElem?_eq_getElem (by omega)]
 rfl
theorem Blk.range {c : Nat} {cs : List Value} {t : TypeId} (h : Blk w c cs t) : w.rangeAt c 0 cs := fun j v hv => by
 rw [Nat.zero_add, h.cell j, hv]
theorem wpList_load_blk {ops : Array Oper} {rest : List Oper} {o : Oper} {a : Act} {Q : Exit → Act → World → Prop} (hgd : o.guard = none) (ty : TypeId) (x : Operand) (ho : o.op = .load ty x)
  (c : Nat) (hx : a.eval x = .pointer (some ⟨c, 0, none⟩)) (t : TypeId) (cs : List Value) (n : Nat) (e : TypeId) (hb : Blk w c cs t)
  (hu : P.underlying ty = some (.array n e)) (hi : (P.info? ty).map (·.size) = some cs.length)
  (h : wpList P ops Q rest (a.put o.dst (.agg cs.toArray)) w) : wpList P ops Q (o :: rest) a w :=
 wpList_load_mid hgd ty x ho c 0 hx cs _ hb.range hu rfl hi h
theorem wpList_store_blk {ops : Array Oper} {rest : List Oper} {o : Oper} {a : Act} {Q : Exit → Act → World → Prop} (hgd : o.guard = none) (ty : TypeId) (x y : Operand) (ho : o.op = .store ty x y)
  (c : Nat) (vs : List Value) (hx : a.eval x = .pointer (some ⟨c, 0, none⟩)) (hy : a.eval y = .agg vs.toArray)
  (t : TypeId) (cs : List Value) (hb : Blk w c cs t) (hl : vs.length = cs.length) (hi : (P.info? ty).map (·.size) = some vs.length) (h1 : ∀ v ∈ vs, v.oneCell' = true)
  (h : ∀ w', Blk w' c vs t → w.grownBy w' (some c) → wpList P ops Q rest (a.put o.dst undef) w') : wpList P ops Q (o :: rest) a w :=
 wpList_store_mid hgd ty x y ho c 0 vs.toArray hx hy (by simpa using hb.there vs.length (by omega)) (by simpa using hi) (all_oneCell_toArray h1)
  (h _ (by simpa [laid_all cs vs hl] using Blk.setCells vs cs 0 w hb) (grownBy_setCells _ 0 w w (grownBy_refl w _)))
theorem wp_store_blk {o : Oper} {a : Act} {K : Act → World → Prop} {Q : Exit → Act → World → Prop} (ty : TypeId) (x y : Operand) (ho : o.op = .store ty x y)
  (c : Nat) (vs : List Value) (hx : a.eval x = .pointer (some ⟨c, 0, none⟩)) (hy : a.eval y = .agg vs.toArray)
  (t : TypeId) (cs : List Value) (hb : Blk w c cs t) (hl : vs.length = cs.length) (hi : (P.info? ty).map (·.size) = some vs.length) (h1 : ∀ v ∈ vs, v.oneCell' = true)
  (h : ∀ w', Blk w' c vs t → w.grownBy w' (some c) → K (a.put o.dst undef) w') : o.wp P a w K Q :=
 wp_store_mid ty x y ho c 0 vs.toArray hx hy (by simpa using hb.there vs.length (by omega)) (by simpa using hi) (all_oneCell_toArray h1)
  (h _ (by simpa [laid_all cs vs hl] using Blk.setCells vs cs 0 w hb) (grownBy_setCells _ 0 w w (grownBy_refl w _)))
theorem Blk.below {c : Nat} {cs : List Value} {t : TypeId} (h : Blk w c cs t) (hb : Below w.heap.size w w') : Blk w' c cs t := h.same (hb.block _ h.lt)
theorem result_blk {fn : Func} {p : Tmp} {ty : TypeId} (h : fn.results = #[.cell p ty]) (tmps : Array Value) (c : Nat) (t : TypeId) (cs : List Value) (n : Nat) (e : TypeId)
  (hp : tmps.getD p undef = .pointer (some ⟨c, 0, none⟩)) (hb : Blk w c cs t) (hu : P.underlying ty = some (.array n e)) (hi : (P.info? ty).map (·.size) = some cs.length) :
  (results fn tmps).run P w = .ok (.agg cs.toArray) w :=
 results_cell_row h tmps w c t cs.toArray (0, 0) _ hp hb hu rfl (by simpa using hi)
theorem Blk.far {c : Nat} {cs : List Value} {t : TypeId} {a : Addr} (h : Blk w c cs t) (ha : a.block ≠ c) (v : Value) : Blk (w.setCell a v) c cs t :=
 h.same (heap_setCell_other w a c v (fun e => ha e.symm))
theorem Blk.alloc {c : Nat} {cs : List Value} {t : TypeId} (h : Blk w c cs t) (o : Obj) : Blk (w.alloc o) c cs t := h.same (heap_alloc_old w o h.lt)
theorem boxes2 (w : World) (a b : List Value) (s t : TypeId) : Blk ((w.alloc (.cells a.toArray s)).alloc (.cells b.toArray t)) w.heap.size a s ∧ Blk ((w.alloc (.cells a.toArray s)).alloc (.cells b.toArray t)) (w.heap.size + 1) b t ∧
  Below w.heap.size w ((w.alloc (.cells a.toArray s)).alloc (.cells b.toArray t)) := by
 refine ⟨(Blk.made w a s).alloc _, ?_, ((Below.refl _ _).alloc (Nat.le_refl _) _).alloc (by simp) _⟩
 have := Blk.made (w.alloc (.cells a.toArray s)) b t
 simpa using this
theorem boxes3 (w : World) (a b c : List Value) (s t u : TypeId) : Blk (((w.alloc (.cells a.toArray s)).alloc (.cells b.toArray t)).alloc (.cells c.toArray u)) w.heap.size a s ∧ Blk (((w.alloc (.cells a.toArray s)).alloc (.cells b.toArray t)).alloc (.cells c.toArray u)) (w.heap.size + 1) b t ∧
  Blk (((w.alloc (.cells a.toArray s)).alloc (.cells b.toArray t)).alloc (.cells c.toArray u)) (w.heap.size + 1 + 1) c u ∧ Below w.heap.size w (((w.alloc (.cells a.toArray s)).alloc (.cells b.toArray t)).alloc (.cells c.toArray u)) := by
 obtain ⟨h1, h2, h3⟩ := boxes2 w a b s t
 refine ⟨h1.alloc _, h2.alloc _, ?_, h3.alloc (by simp; omega) _⟩
 have := Blk.made ((w.alloc (.cells a.toArray s)).alloc (.cells b.toArray t)) c u
 simpa using this
theorem boxes4 (w : World) (a b c d : List Value) (s t u v : TypeId) : Blk ((((w.alloc (.cells a.toArray s)).alloc (.cells b.toArray t)).alloc (.cells c.toArray u)).alloc (.cells d.toArray v)) w.heap.size a s ∧ Blk ((((w.alloc (.cells a.toArray s)).alloc (.cells b.toArray t)).alloc (.cells c.toArray u)).alloc (.cells d.toArray v)) (w.heap.size + 1) b t ∧
  Blk ((((w.alloc (.cells a.toArray s)).alloc (.cells b.toArray t)).alloc (.cells c.toArray u)).alloc (.cells d.toArray v)) (w.heap.size + 1 + 1) c u ∧ Blk ((((w.alloc (.cells a.toArray s)).alloc (.cells b.toArray t)).alloc (.cells c.toArray u)).alloc (.cells d.toArray v)) (w.heap.size + 1 + 1 + 1) d v ∧ Below w.heap.size w ((((w.alloc (.cells a.toArray s)).alloc (.cells b.toArray t)).alloc (.cells c.toArray u)).alloc (.cells d.toArray v)) := by
 obtain ⟨h1, h2, h3, h4⟩ := boxes3 w a b c s t u
 refine ⟨h1.alloc _, h2.alloc _, h3.alloc _, ?_, h4.alloc (by simp; omega) _⟩
 have := Blk.made (((w.alloc (.cells a.toArray s)).alloc (.cells b.toArray t)).alloc (.cells c.toArray u)) d v
 simpa using this
def ints (k : IntKind) (zs : List Int) : List Value := zs.map (.int k)
theorem ints_one (k : IntKind) (zs : List Int) : ∀ v ∈ ints k zs, v.oneCell' = true := by
 intro u hu
 obtain ⟨z, _, rfl⟩ := List.mem_map.1 hu
 rfl
theorem ints_set (k : IntKind) (zs : List Int) (i : Nat) (z : Int) : (ints k zs).set i (.int k z) = ints k (zs.set i z) := by
 unfold ints
 rw [List.map_set]
theorem ints_get {k : IntKind} {zs : List Int} {i : Nat} (h : i < zs.length) : (ints k zs)[i]? = some (.int k (zs.getD i 0)) := by
 simp [ints, List.getD, h]
theorem ints_length (k : IntKind) (zs : List Int) : (ints k zs).length = zs.length := by simp [ints]
end
end
section
open Go.ChangeShapes Go.WideShapes Go.ChangeAt Go.WideMaps Go.WideElems Go.RowKit
theorem laid_in {P : Program} {w : World} : ∀ {laid : List (String × DataW Unit)} {ps : List MemPlace} {n : String} {d : DataW Unit}, DataW.LaidVars P w laid ps → (n, d) ∈ laid →
  ∃ g t cs fuel p, P.globalNamed n = some g ∧ (P.globals[g]?).map (·.type) = some t ∧ w.var? P n = some cs ∧ DataW.trod (fun _ => ()) P w 0 (fun _ => true) false fuel t cs.toList = some (d, p)
 | [], _, _, _, _, hm => by cases hm
 | (n0, d0) :: r, ps, n, d, h, hm => by
  obtain ⟨g, t, cs, fuel, p, q, h1, h2, h3, h4, h5, _⟩ := h
  rcases List.mem_cons.1 hm with e | hm
  ·cases e
   exact ⟨g, t, cs, fuel, p, h1, h2, h3, h4⟩
  ·exact laid_in h5 hm
theorem range_of_laid {P : Program} {W : World} {L : List (String × DataW Unit)} {n : String} {g len : Nat} {t e : TypeId} {k : IntKind} {zs : List Int} {d : DataW Unit}
  (hplain : (L.all fun x => x.2.handleName?.isNone) = true) (h : laidMetH P L W) (hm : (n, d) ∈ L) (hd : d = .agg (zs.map fun z => .lit (.int k z)))
  (hg : P.globalNamed n = some g) (ht : (P.globals[g]?).map (·.type) = some t) (hu : P.underlying t = some (.array len e)) (he : P.underlying e = some (.int k)) (hc : P.cellsOf e = 1) (hz : zs.length = len) : W.rangeAt g 0 (ints k zs) := by
 rw [MakeChecks.laidMetH_plain _ _ _ hplain] at h
 obtain ⟨ps, hl, _, _⟩ := h
 obtain ⟨g0, t0, cs0, f0, p0, hg0, ht0, hv0, hd0⟩ := laid_in hl hm
 obtain rfl := Option.some.inj (hg.symm.trans hg0)
 obtain rfl := Option.some.inj (ht.symm.trans ht0)
 obtain ⟨xs, m, rfl, hx1, hlen, hn, hel⟩ := DataW.trod_array hu hd0
 rw [hd] at hx1
 simp only [Prod.mk.injEq, DataW.agg.injEq] at hx1
 intro j v hj
 have hjl : j < len := by
  apply Classical.byContradiction
  intro hn'
  rw [List.getElem?_eq_none (by rw [ints_length]; omega)] at hj
  cases hj
 have h0 := hel j hjl
 rw [hc, Nat.mul_one] at h0
 obtain ⟨x0, hx0⟩ : ∃ x0, xs[j]? = some x0 := ⟨xs[j], List.getElem?_eq_getElem (by omega)⟩
 rw [hx0] at h0
 obtain ⟨q, e1, e2, _⟩ := DataW.trod_int he h0
 have e3 : (zs.map fun z => (DataW.lit (.int k z) : DataW Unit))[j]? = some x0.1 := by rw [hx1.1, List.getElem?_map, hx0]; rfl
 rw [e2, List.getElem?_map] at e3
 have e4 : zs[j]? = some q := by
  cases hr : zs[j]? with
  | none => rw [hr] at e3; cases e3
  | some z => rw [hr] at e3; simpa using e3
 have e5 : v = .int k q := by
  unfold ints at hj
  rw [List.getElem?_map, e4] at hj
  simpa using hj.symm
 have e6 : cs0.toList[j]? = some (.int k q) := by
  have := congrArg (fun l : List Value => l[0]?) e1
  simpa [List.getElem?_take, List.getElem?_drop] using this
 have := World.var?_cell hg0 hv0 j
 rw [Nat.zero_add, this, e5]
 simpa using e6
def LawWalkG (G : World → Prop) {H : Type} (enc : TypeId × Value → H) (P : Program) (f : FuncId) (ts : List TypeId) : Prop :=
 ∀ (W : World) (base : Nat) (args : Array Value) (ds : List (DataW H)) (ps : List MemPlace),
  (∀ (j : Nat) (t : TypeId) (v : Value), ts[j]? = some t → args[j]? = some v → Value.okWide P W .any base t v) →
  DataW.TrodAll enc P W 0 (fun _ => true) true ts args.toList ds ps → (∀ x ∈ ps, x.block < W.heap.size) → W.noneFrozen ps → G W →
  Calls P f args W fun e w' => e = .returned (.bool true) ∧ Below W.heap.size W w'
theorem law_lift_tied {G : World → Prop} {H : Type} {enc : TypeId × Value → H} {C : Checked} {os : Os} {f : FuncId} {fn : Func} {s : ChangeSpec} {tb : TypeId} (L : List (String × DataW Unit))
  (own : ownKnob C.prog.godebug = none) (laid : laidOutB C.prog = true) (started : os.Started)
  (hinit : C.prog.inits.idxOf? f = none) (hf : C.prog.funcs[f]? = some fn) (hvars : s.vars = [])
  (hread : (fn.params.toList.all fun t => C.prog.readableRec t && decide (t < C.prog.types.size)) = true)
  (hres : fn.resultTypes = #[tb]) (hb : C.prog.underlying tb = some .bool)
  (hs : ∀ ds : List (DataW H), ds.length = fn.params.toList.length → (s.fn H ds).results = [.lit (.bool true)] ∧ (s.fn H ds).args = ds ∧ (s.fn H ds).vars = [])
  (hwit : ∃ (w : World) (tape : Tape) (i : Input), w.os = os ∧ (w.forCall tape i).Shaped C.prog ∧ i.vars = [] ∧ Input.okWide C.prog (w.forCall tape i) .any w.heap.size f i ∧
   ((s.pre enc C.prog fn [] false (w.forCall tape i).memory i.args ∧ laidMetH C.prog L (w.forCall tape i).memory) ∧ sizedMet enc C.prog fn (OpenSpec.ofChange s) false (w.forCall tape i).memory i.args) ∧ ({} : Assume).holds C.prog (lone (Frame.enter C.prog f i.args .normal) [] (w.forCall tape i)))
  (hglob : ∀ W, laidMetH C.prog L W → G W) (walk : LawWalkG G enc C.prog f fn.params.toList) :
  ReturnsInHanded {} C os f .any (fun w args => (s.pre enc C.prog fn [] false w args ∧ laidMetH C.prog L w) ∧ sizedMet enc C.prog fn (OpenSpec.ofChange s) false w args) (s.post enc C.prog fn false true false false) := by
 refine returnsInHanded_of_change_and (C := C) (X := fun w _ => laidMetH C.prog L w) (fun _ _ _ hh h => h.of_heap hh) own started hinit hf hwit ?_
 intro W base args ds gs before hval hW _ _ hL _
 have hW' := hW
 have hlt := hW.lt
 obtain ⟨p, q, hA, hV, rfl, hfz, hnd⟩ := hW
 rw [hvars] at hV
 obtain ⟨rfl, rfl⟩ := trodVars_none hV
 rw [List.append_nil] at hlt hfz
 have hlen := trodAll_len hA
 obtain ⟨e1, e2, e3⟩ := hs ds hlen
 refine (walk W base args ds p (fun j t v hj hv => hval j t v (by rw [← Array.getElem?_toList]; exact hj) hv) hA hlt hfz (hglob W hL)).mono ?_
 rintro e w' ⟨rfl, hbel⟩
 refine ⟨_, rfl, ds, [], p ++ [], [], p, [], hW', ?_, ?_, ?_, ?_, ?_⟩
 ·rw [List.append_nil, e1, hres]
  exact trodAll_mk1 (shut_bool hb _)
 ·rw [List.append_nil, e2]
  exact trodAll_stays laid hread hA (fun x hx => hbel.same (hlt x hx)) (fun x hx => by simpa using hlt x hx)
 ·rw [hvars, List.append_nil, e3]
  rfl
 ·exact hbel.frame _
 ·intro h
  cases h
end
section
open Go.ChangeShapes Go.WideShapes Go.ChangeAt Go.RowKit
section
variable {H : Type} {enc : TypeId × Value → H} {P : Program} {W : World}
theorem byte_of {b : Int} (h : (Lit.int .u8 b).wf = true) : ∃ n : UInt8, b = (n.toNat : Int) := by
 have hb : 0 ≤ b ∧ b ≤ 255 := by simpa [Lit.wf, IntKind.min, IntKind.max, IntKind.signed, IntKind.bits] using h
 refine ⟨UInt8.ofNat b.toNat, ?_⟩
 rw [UInt8.toNat_ofNat']
 omega
end
end
section
def Ext (w w' : World) : Prop := Below w.heap.size w w'
theorem Ext.refl (w : World) : Ext w w := Below.refl _ w
theorem Ext.trans {a b c : World} (h : Ext a b) (g : Ext b c) : Ext a c := Below.trans h (Below.mono g h.size)
theorem Ext.drew (w : World) : Ext w w.drew := (Below.refl _ w).drew
theorem Ext.alloc (w : World) (o : Obj) : Ext w (w.alloc o) := (Below.refl _ w).alloc (Nat.le_refl _) o
section
variable {P : Program} {ops : Array Oper} {Q : Exit → Act → World → Prop} {md : Region.Mode} {t : Nat}
def doneB (t : Nat) (listed : Array Bool) : Bool := (List.range t).all fun k => listed.getD k true
def wpAnyB (P : Program) (md : Region.Mode) (ops : Array Oper) (Q : Exit → Act → World → Prop) (t : Nat) : Nat → Array Bool → Act → World → Prop
 | 0, listed, a, w => ∀ w', Ext w w' → wpAny P md ops Q 0 listed a w'
 | fuel + 1, listed, a, w =>
  (doneB t listed = true → ∀ w', Ext w w' → wpAny P md ops Q (fuel + 1) listed a w') ∧
  (doneB t listed = false → ∀ w', Ext w w' → Region.ready md ops listed ≠ [] ∧
   ∀ i ∈ Region.ready md ops listed, wpOp P ops Q i (fun a' w'' => Ext w' w'' ∧ wpAnyB P md ops Q t fuel (listed.setIfInBounds i true) a' w'') a w')
theorem wpAnyB_up : ∀ {fuel : Nat} {listed : Array Bool} {a : Act} {w w' : World}, Ext w w' → wpAnyB P md ops Q t fuel listed a w → wpAnyB P md ops Q t fuel listed a w'
 | 0, _, _, _, _, hw, h => fun w2 h2 => h w2 (hw.trans h2)
 | _ + 1, _, _, _, _, hw, h => ⟨fun hd w2 h2 => h.1 hd w2 (hw.trans h2), fun hd w2 h2 => h.2 hd w2 (hw.trans h2)⟩
theorem wpAny_of_B : ∀ (fuel : Nat) {listed : Array Bool} {a : Act} {w : World}, wpAnyB P md ops Q t fuel listed a w → wpAny P md ops Q fuel listed a w
 | 0, _, _, w, h => h w (Ext.refl w)
 | fuel + 1, listed, _, w, h => by
  cases hd : doneB t listed with
  | true => exact h.1 hd w (Ext.refl w)
  | false =>
   obtain ⟨h1, h2⟩ := h.2 hd w (Ext.refl w)
   exact ⟨fun h0 => absurd h0 h1, fun i hi => wpOp_mono (fun a' w' h' => wpAny_of_B fuel h'.2) (h2 i hi)⟩
def YieldsB (P : Program) (ops : Array Oper) (C : World → Prop) (o : Oper) (v : Value) (a : Act) : Prop :=
 (Region.wanted o (yielded ops a.tmps) = true ∧ ∀ w, C w → o.quietAt P a (Ext w) w v) ∨ (Region.wanted o (yielded ops a.tmps) = false ∧ v = undef)
variable {C : World → Prop}
theorem YieldsB.of_same {o : Oper} {v : Value} {a a' : Act} (hy : YieldsB P ops C o v a) (he : execOp a'.eval o = execOp a.eval o)
  (hw : Region.wanted o (yielded ops a'.tmps) = Region.wanted o (yielded ops a.tmps)) : YieldsB P ops C o v a' := by
 rcases hy with ⟨h1, h2⟩ | ⟨h1, h2⟩
 ·exact Or.inl ⟨hw.trans h1, fun w hc => by have := h2 w hc; unfold Oper.quietAt at *; rwa [he]⟩
 ·exact Or.inr ⟨hw.trans h1, h2⟩
theorem YieldsB.wpOp {i : Nat} {o : Oper} {v : Value} {a : Act} (hi : ops[i]? = some o) (hy : YieldsB P ops C o v a) {K : Act → World → Prop} {w : World} (hC : C w)
  (h : ∀ w', Ext w w' → K (a.put o.dst v) w') : wpOp P ops Q i K a w := by
 unfold Go.wpOp
 simp only [hi]
 rcases hy with ⟨hw, hv⟩ | ⟨hw, rfl⟩
 ·rw [if_pos hw]
  left
  have h3 := hv w hC
  unfold Oper.quietAt at h3
  unfold Oper.wp
  generalize (execOp a.eval o).run P w = r at *
  cases r with
  | halt x w' => exact h3.elim
  | ok n w' =>
   cases n <;> simp only [Oper.quietUpon] at h3 <;> simp only [Oper.upon]
   case value u =>
    obtain ⟨e1, e2⟩ := h3
    rw [e1, e2]
    exact h _ (Ext.refl _)
   case skip =>
    obtain ⟨e1, e2⟩ := h3
    rw [e1, ← e2]
    exact h _ (Ext.refl _)
   case enter f args =>
    obtain ⟨e1, hc⟩ := h3
    rw [e1]
    exact hc.mono fun e w'' ⟨he, hw''⟩ => by subst he; exact h _ hw''
 ·rw [if_neg (by simp [hw])]
  exact h _ (Ext.refl _)
theorem wpOp_keep {j : Nat} {oj : Oper} {Y : Act → Prop} {K : Act → World → Prop} {a : Act} {w : World} (hj : ops[j]? = some oj) (hput : ∀ u, Y (a.put oj.dst u))
  (hdef : ∀ d, Y ({ a with defers := d :: a.defers }.put oj.dst undef)) (h : wpOp P ops Q j K a w) : wpOp P ops Q j (fun a' w' => Y a' ∧ K a' w') a w := by
 unfold wpOp at *
 simp only [hj] at *
 split
 ·rename_i hw
  simp only [hw, if_true] at h
  rcases h with h | h
  ·left
   unfold Oper.wp at *
   generalize (execOp a.eval oj).run P w = r at *
   cases r with
   | halt x w' => cases x <;> simp only [Oper.upon] at h ⊢ <;> exact h
   | ok n w' =>
    cases n <;> simp only [Oper.upon] at h ⊢
    case value u => exact ⟨hput u, h⟩
    case skip => exact ⟨hput _, h⟩
    case defer d => exact ⟨hdef d, h⟩
    case enter f args =>
     refine Calls.mono h fun e w'' he => ?_
     cases e with
     | returned u => exact ⟨hput u, he⟩
     | panicked c => exact he
     | outgrown => exact he
    case row r args2 => exact Rows.mono h fun u w'' he => ⟨hput u, he⟩
  ·exact Or.inr h
 ·rename_i hw
  simp only [hw] at h
  exact ⟨hput _, h⟩
theorem wpAnyB_first {i : Nat} {oi : Oper} {v : Value} (hi : ops[i]? = some oi) (hit : i < t) (hsel : ∀ (j : Nat) (o : Oper) cs b, ops[j]? = some o → o.op ≠ .select cs b)
  (hQ : ∀ d v c a w, Q (.panic c) (Act.put a d v) w → Q (.panic c) a w) (cl : Array Bool) (hsz : cl.size = ops.size) (hcl : ∀ j ∈ Region.ready md ops cl, j = i) (htail : ∀ k, t ≤ k → cl.getD k false = false) :
  ∀ (fuel : Nat) (listed : Array Bool) (a : Act) (w : World),
   (∀ j oj, ops[j]? = some oj → j ≠ i → listed.getD j true = false → (∀ e ∈ oj.after, Region.binds md e = true → e.on ≠ i) → oi.apart ops oj = true) →
   i ∈ Region.ready md ops listed → (∀ k, listed.getD k false = true → cl.getD k false = true) → YieldsB P ops C oi v a → (∀ w', Ext w w' → C w') →
   wpAnyB P md ops Q t fuel (listed.setIfInBounds i true) (a.put oi.dst v) w → wpAnyB P md ops Q t (fuel + 1) listed a w := by
 intro fuel
 induction fuel with
 | zero =>
  intro listed a w hfree hr hsub hy hC H
  have hun := (mem_ready.1 hr).1
  have hnd : doneB t listed = false := by
   unfold doneB
   rw [List.all_eq_false]
   exact ⟨i, List.mem_range.2 hit, by rw [hun]; simp⟩
  refine ⟨fun h => (by rw [hnd] at h; cases h), fun _ w' hw' => ⟨List.ne_nil_of_mem hr, fun j hj => ?_⟩⟩
  by_cases hji : j = i
  ·subst hji
   exact hy.wpOp hi (hC w' hw') (fun w'' h'' => ⟨h'', wpAnyB_up (hw'.trans h'') H⟩)
  ·have h0 := (H w' hw').1
   have := ready_mono hj hji
   rw [h0] at this
   cases this
 | succ fuel ih =>
  intro listed a w hfree hr hsub hy hC H
  have hun := (mem_ready.1 hr).1
  have hnd : doneB t listed = false := by
   unfold doneB
   rw [List.all_eq_false]
   exact ⟨i, List.mem_range.2 hit, by rw [hun]; simp⟩
  refine ⟨fun h => (by rw [hnd] at h; cases h), fun _ w' hw' => ⟨List.ne_nil_of_mem hr, fun j hj => ?_⟩⟩
  by_cases hji : j = i
  ·subst hji
   exact hy.wpOp hi (hC w' hw') (fun w'' h'' => ⟨h'', wpAnyB_up (hw'.trans h'') H⟩)
  ·obtain ⟨hjun, oj, hoj, hall⟩ := mem_ready.1 hj
   have hjlt : j < ops.size := (Array.getElem?_eq_some_iff.1 hoj).1
   have hjcl : cl.getD j false = true := by
    cases hc : cl.getD j false with
    | true => rfl
    | false =>
     refine absurd (hcl j (mem_ready.2 ⟨?_, oj, hoj, fun e he hb => hsub _ (hall e he hb)⟩)) hji
     have hjs : j < cl.size := by omega
     simpa [Array.getD, hjs] using hc
   have hjt : j < t := by
    rcases Nat.lt_or_ge j t with h | h
    ·exact h
    ·rw [htail j h] at hjcl; cases hjcl
   cases hd : doneB t (listed.setIfInBounds i true) with
   | true =>
    unfold doneB at hd
    have := (List.all_eq_true.1 hd) j (List.mem_range.2 hjt)
    rw [getD_set_ne true (Ne.symm hji), hjun] at this
    cases this
   | false =>
    have h1 := ((H.2 hd) w' hw').2 j (ready_mono hj hji)
    have hnot : ∀ e ∈ oj.after, Region.binds md e = true → e.on ≠ i := fun e he hb heq => by
     have h2 := hall e he hb
     rw [heq] at h2
     rcases Nat.lt_or_ge i listed.size with h' | h'
     ·simp [h'] at hun h2; rw [hun] at h2; cases h2
     ·simp [Array.getElem?_eq_none h'] at h2
    have hap := hfree j oj hoj hji hjun hnot
    obtain ⟨a1, a2, a3⟩ := Oper.apart_spec hap
    have hyf : YieldsIf P ops (fun _ => False) oi v a := hy.imp (fun h => ⟨h.1, fun _ h => h.elim⟩) id
    have h2 := wpOp_putIf hoj hap (fun cs b => hsel i oi cs b hi) (fun cs b => hsel j oj cs b hoj) (fun c a w h => hQ _ _ c a w h) hyf h1
    have keep : ∀ u, YieldsB P ops C oi v (a.put oj.dst u) := fun u => hy.of_same (execOp_put oi (fun cs b => hsel i oi cs b hi) a oj.dst u a3) (wanted_put oi a oj.dst u a3)
    have keepD : ∀ d, YieldsB P ops C oi v ({ a with defers := d :: a.defers }.put oj.dst undef) := fun d =>
     (hy.of_same (a' := { a with defers := d :: a.defers }) rfl rfl).of_same (execOp_put oi (fun cs b => hsel i oi cs b hi) _ oj.dst undef a3) (wanted_put oi _ oj.dst undef a3)
    have h3 := wpOp_keep (Y := YieldsB P ops C oi v) hoj keep keepD h2
    refine wpOp_mono (fun a' w'' h4 => ⟨h4.2.2.1, ih (listed.setIfInBounds j true) a' w'' ?_ (ready_mono hr (Ne.symm hji)) ?_ h4.1 (fun w3 h5 => hC w3 ((hw'.trans h4.2.2.1).trans h5)) ?_⟩) h3
    ·intro k ok hk hki hkun hkno
     refine hfree k ok hk hki ?_ hkno
     by_cases hjk : j = k
     ·subst hjk; exact hjun
     ·rwa [getD_set_ne true hjk] at hkun
    ·intro k hk
     by_cases hjk : j = k
     ·subst hjk; exact hjcl
     ·rw [getD_set_ne false hjk] at hk
      exact hsub k hk
    ·rw [Array.setIfInBounds_comm _ _ hji]
     exact h4.2.2.2
def closeB (md : Region.Mode) (ops : Array Oper) (i : Nat) (listed : Array Bool) : Array Bool :=
 (List.range ops.size).foldl (fun c j => if j == i || c.getD j true then c else if ((ops[j]?).map (·.after.all fun e => !Region.binds md e || c.getD e.on false)).getD false then c.setIfInBounds j true else c) listed
def detB (md : Region.Mode) (ops : Array Oper) (t : Nat) : Nat → Nat → Array Bool → Bool
 | 0, _, _ => true
 | d + 1, k, listed =>
  let cl := closeB md ops k listed
  (Region.ready md ops listed).contains k && Region.free md ops listed k && Nat.blt k t && (cl.size == ops.size) && (Region.ready md ops cl).all (· == k) && (List.range cl.size).all (fun j => Nat.blt j t || !cl.getD j false) && (List.range listed.size).all (fun j => !listed.getD j false || cl.getD j false) &&
   detB md ops t d (k + 1) (listed.setIfInBounds k true)
def wpDet (P : Program) (ops : Array Oper) (C : World → Prop) (Q : Act → Prop) : List Oper → Act → Prop
 | [], a => Q a
 | o :: rest, a => (Region.wanted o (yielded ops a.tmps) = true → ∃ v, (∀ w, C w → o.quietAt P a (Ext w) w v) ∧ wpDet P ops C Q rest (a.put o.dst v)) ∧ (Region.wanted o (yielded ops a.tmps) = false → wpDet P ops C Q rest (a.put o.dst undef))
def listN : Nat → Nat → Array Bool → Array Bool
 | 0, _, l => l
 | d + 1, k, l => listN d (k + 1) (l.setIfInBounds k true)
theorem wpAnyB_lex (hs : Region.noSelect ops = true) (hQ : ∀ d v c a w, Q (.panic c) (Act.put a d v) w → Q (.panic c) a w) (m : Nat) : ∀ (l : List Oper) (k : Nat) (listed : Array Bool) (a : Act) (w : World), (∀ j, j < l.length → l[j]? = ops[k + j]?) →
  detB md ops t l.length k listed = true → (∀ w', Ext w w' → C w') → wpDet P ops C (fun a' => wpAnyB P md ops Q t m (listN l.length k listed) a' w) l a → wpAnyB P md ops Q t (l.length + m) listed a w
 | [], _, _, _, _, _, _, _, h => by simpa [wpDet, listN] using h
 | o :: l, k, listed, a, w, hl, hB, hC, h => by
  have h0 : ops[k]? = some o := by simpa using (hl 0 (by simp)).symm
  simp only [List.length_cons, detB, Bool.and_eq_true] at hB
  obtain ⟨⟨⟨⟨⟨⟨⟨b1, b2⟩, b3⟩, b4⟩, b5⟩, b6⟩, b7⟩, b8⟩ := hB
  have hy : ∃ v, YieldsB P ops C o v a ∧ wpDet P ops C (fun a' => wpAnyB P md ops Q t m (listN l.length (k + 1) (listed.setIfInBounds k true)) a' w) l (a.put o.dst v) := by
   cases hw : Region.wanted o (yielded ops a.tmps) with
   | true =>
    obtain ⟨v, h1, h2⟩ := h.1 hw
    exact ⟨v, Or.inl ⟨hw, h1⟩, h2⟩
   | false => exact ⟨undef, Or.inr ⟨hw, rfl⟩, h.2 hw⟩
  obtain ⟨v, hy, hK⟩ := hy
  rw [List.length_cons, Nat.add_right_comm]
  have hcs : (closeB md ops k listed).size = ops.size := by simpa using b4
  refine wpAnyB_first h0 (by simpa using b3) (Region.noSelect_spec hs) hQ (closeB md ops k listed) hcs (fun j hj => by simpa using (List.all_eq_true.1 b5) j hj) (fun j hj => ?_) (l.length + m) listed a w (Region.free_spec h0 b2) (by simpa using b1) (fun j hj => ?_) hy hC
   (wpAnyB_lex hs hQ m l (k + 1) _ _ w (fun j hj => by have := hl (j + 1) (by simp; omega); simpa [Nat.add_assoc, Nat.add_comm 1 j] using this) b8 hC hK)
  ·rcases Nat.lt_or_ge j (closeB md ops k listed).size with h' | h'
   ·have := (List.all_eq_true.1 b6) j (List.mem_range.2 h')
    simp at this
    rcases this with h2 | h2
    ·omega
    ·simpa [Array.getD, h'] using h2
   ·simp [Array.getD, Nat.not_lt.2 h']
  ·rcases Nat.lt_or_ge j listed.size with h' | h'
   ·have := (List.all_eq_true.1 b7) j (List.mem_range.2 h')
    simp only [Bool.or_eq_true, Bool.not_eq_true'] at this
    rcases this with h2 | h2
    ·rw [hj] at h2; cases h2
    ·exact h2
   ·simp [Array.getD, Nat.not_lt.2 h'] at hj
theorem wp_region_from {id : Nat} {a : Act} {w : World} (d m t : Nat) (hdm : ops.size = d + m) (hm : P.follows .mixedOrders = true) (hs : Region.noSelect ops = true)
  (hQ : ∀ d v c a w, Q (.panic c) (Act.put a d v) w → Q (.panic c) a w) (hB : detB .any ops t d 0 (Array.replicate ops.size false) = true)
  (h : wpDet P ops (Ext w) (fun a' => wpAnyB P .any ops Q t m (listN d 0 (Array.replicate ops.size false)) a' w.drew) (ops.toList.take d) a) : (Code.region id ops true).wp P Q a w := by
 have hl : (ops.toList.take d).length = d := by simp; omega
 refine wp_region_any hm (wpAny_of_B (t := t) _ ?_)
 have := wpAnyB_lex (C := Ext w) (md := .any) (w := w.drew) hs hQ m (ops.toList.take d) 0 (Array.replicate ops.size false) a (fun j hj => by
  rw [hl] at hj
  rw [List.getElem?_take_of_lt hj, Nat.zero_add, Array.getElem?_toList]) (by rw [hl]; exact hB) (fun w' hw' => (Ext.drew w).trans hw') (by rw [hl]; exact h)
 rw [hl] at this
 rw [hdm] at this ⊢
 exact this
end
end
section
section
variable {P : Program} {ops : Array Oper} {Q : Exit → Act → World → Prop} {md : Region.Mode} {t : Nat} {C : World → Prop} {D : Act → Prop}
theorem det_nil {a : Act} (h : D a) : wpDet P ops C D [] a := h
theorem det_val {o : Oper} {rest : List Oper} {a : Act} (v : Value) (hw : Region.wanted o (yielded ops a.tmps) = true) (h : ∀ w, C w → (execOp a.eval o).run P w = .ok (.value v) w)
  (next : wpDet P ops C D rest (a.put o.dst v)) : wpDet P ops C D (o :: rest) a :=
 ⟨fun _ => ⟨v, fun w hw' => by unfold Oper.quietAt; rw [h w hw']; exact ⟨rfl, rfl⟩, next⟩, fun h' => by rw [hw] at h'; cases h'⟩
theorem det_move {o : Oper} {rest : List Oper} {a : Act} (x : Operand) (v : Value) (hw : Region.wanted o (yielded ops a.tmps) = true) (ho : o.op = .move x) (hx : a.eval x = v)
  (next : wpDet P ops C D rest (a.put o.dst v)) : wpDet P ops C D (o :: rest) a :=
 det_val v hw (fun w _ => by unfold execOp; simp only [ho, hx, Sem.run_pure]) next
theorem det_assign {o : Oper} {rest : List Oper} {a : Act} (x : Operand) (v : Value) (hw : Region.wanted o (yielded ops a.tmps) = true) (ho : o.op = .assign x) (hx : a.eval x = v)
  (next : wpDet P ops C D rest (a.put o.dst v)) : wpDet P ops C D (o :: rest) a :=
 det_val v hw (fun w _ => by unfold execOp; simp only [ho, hx, Sem.run_pure]) next
theorem det_load {o : Oper} {rest : List Oper} {a : Act} (ty : TypeId) (x : Operand) (c : Nat) (cs : List Value) (d : TypeDesc) (hw : Region.wanted o (yielded ops a.tmps) = true) (ho : o.op = .load ty x)
  (hx : a.eval x = .pointer (some ⟨c, 0, none⟩)) (hC : ∀ w, C w → w.rangeAt c 0 cs) (hu : P.underlying ty = some d) (hd : d.isRow = true) (hi : (P.info? ty).map (·.size) = some cs.length)
  (next : wpDet P ops C D rest (a.put o.dst (.agg cs.toArray))) : wpDet P ops C D (o :: rest) a := by
 rcases yieldsIf_load_mid (S := C) hw ty x ho c 0 hx cs d hC hu hd hi with ⟨_, h⟩ | ⟨h, _⟩
 ·exact det_val _ hw h next
 ·rw [hw] at h; cases h
theorem det_call {o : Oper} {rest : List Oper} {a : Act} (f : FuncId) (bs : Array Operand) (ts : Array TypeId) (args : List Value) (v : Value) (hw : Region.wanted o (yielded ops a.tmps) = true)
  (ho : o.op = .call { callee := .value (.func f), args := bs, argTypes := ts }) (hen : ∀ args w, (callFunc f args).run P w = .ok (.enter f args) w) (ha : bs.toList.map a.eval = args)
  (hc : ∀ w, C w → Calls P f args.toArray w fun e w' => e = .returned v ∧ Below w.heap.size w w') (next : wpDet P ops C D rest (a.put o.dst v)) : wpDet P ops C D (o :: rest) a :=
 ⟨fun _ => ⟨v, fun w hw' => by
  have hb : bs.map a.eval = args.toArray := by
   apply Array.ext'
   simpa using ha
  unfold Oper.quietAt execOp
  simp only [ho, resolve, hb, Sem.run_bind]
  simp only [Act.eval, Deferred.ofValue, Sem.run_pure, Result.andThen_ok, invoke, Array.append_empty, Array.empty_append, hen]
  exact ⟨rfl, hc w hw'⟩, next⟩, fun h' => by rw [hw] at h'; cases h'⟩
theorem det_cell {o : Oper} {rest : List Oper} {a : Act} (ty : TypeId) (x : Operand) (c k : Nat) (v : Value) (hw : Region.wanted o (yielded ops a.tmps) = true) (ho : o.op = .load ty x)
  (hx : a.eval x = .pointer (some ⟨c, k, none⟩)) (hC : ∀ w, C w → w.cell? ⟨c, k, none⟩ = some v) (ha : ∀ w, (isAgg ty).run P w = .ok false w)
  (next : wpDet P ops C D rest (a.put o.dst v)) : wpDet P ops C D (o :: rest) a :=
 det_val v hw (fun w hw' => by
  have hc := hC w hw'
  unfold execOp
  simp [ho, hx, Instr.loadAt, Instr.sureAddr, loadVar, ha, hc]) next
theorem det_mul {o : Oper} {rest : List Oper} {a : Act} (ty rt : TypeId) (x y : Operand) (k : IntKind) (m n r : Int) (hw : Region.wanted o (yielded ops a.tmps) = true) (ho : o.op = .binOp .mul ty x y rt) (hx : a.eval x = .int k m) (hy : a.eval y = .int k n) (hr : k.wrap (m * n) = r)
  (next : wpDet P ops C D rest (a.put o.dst (.int k r))) : wpDet P ops C D (o :: rest) a :=
 det_val _ hw (fun w _ => by unfold execOp; simp [ho, hx, hy, eqGuard, binOp, Op.intArith, hr]) next
theorem det_add {o : Oper} {rest : List Oper} {a : Act} (ty rt : TypeId) (x y : Operand) (k : IntKind) (m n r : Int) (hw : Region.wanted o (yielded ops a.tmps) = true) (ho : o.op = .binOp .add ty x y rt) (hx : a.eval x = .int k m) (hy : a.eval y = .int k n) (hr : k.wrap (m + n) = r)
  (next : wpDet P ops C D rest (a.put o.dst (.int k r))) : wpDet P ops C D (o :: rest) a :=
 det_val _ hw (fun w _ => by unfold execOp; simp [ho, hx, hy, eqGuard, binOp, Op.intArith, hr]) next
theorem det_and {o : Oper} {rest : List Oper} {a : Act} (ty rt : TypeId) (x y : Operand) (k : IntKind) (m n r : Int) (hw : Region.wanted o (yielded ops a.tmps) = true) (ho : o.op = .binOp .and ty x y rt) (hx : a.eval x = .int k m) (hy : a.eval y = .int k n) (hr : bits .and k m n = r)
  (next : wpDet P ops C D rest (a.put o.dst (.int k r))) : wpDet P ops C D (o :: rest) a :=
 det_val _ hw (fun w _ => by rw [← hr]; unfold execOp bits; simp [ho, hx, hy, eqGuard, binOp, Op.intBits]) next
theorem det_or {o : Oper} {rest : List Oper} {a : Act} (ty rt : TypeId) (x y : Operand) (k : IntKind) (m n r : Int) (hw : Region.wanted o (yielded ops a.tmps) = true) (ho : o.op = .binOp .or ty x y rt) (hx : a.eval x = .int k m) (hy : a.eval y = .int k n) (hr : bits .or k m n = r)
  (next : wpDet P ops C D rest (a.put o.dst (.int k r))) : wpDet P ops C D (o :: rest) a :=
 det_val _ hw (fun w _ => by rw [← hr]; unfold execOp bits; simp [ho, hx, hy, eqGuard, binOp, Op.intBits]) next
theorem det_xor {o : Oper} {rest : List Oper} {a : Act} (ty rt : TypeId) (x y : Operand) (k : IntKind) (m n r : Int) (hw : Region.wanted o (yielded ops a.tmps) = true) (ho : o.op = .binOp .xor ty x y rt) (hx : a.eval x = .int k m) (hy : a.eval y = .int k n) (hr : bits .xor k m n = r)
  (next : wpDet P ops C D rest (a.put o.dst (.int k r))) : wpDet P ops C D (o :: rest) a :=
 det_val _ hw (fun w _ => by rw [← hr]; unfold execOp bits; simp [ho, hx, hy, eqGuard, binOp, Op.intBits]) next
theorem det_index {o : Oper} {rest : List Oper} {a : Act} (ty e : TypeId) (x y : Operand) (c n : Nat) (j : Nat) (hw : Region.wanted o (yielded ops a.tmps) = true) (ho : o.op = .indexAddr ty x y) (hx : a.eval x = .pointer (some ⟨c, 0, none⟩)) (hy : a.eval y = .int .i64 (j : Int))
  (hu : P.underlying ty = some (.array n e)) (hj : j < n) (hs : ∀ w, (sizeOf e).run P w = .ok 1 w)
  (next : wpDet P ops C D rest (a.put o.dst (.pointer (some ⟨c, j, none⟩)))) : wpDet P ops C D (o :: rest) a :=
 det_val _ hw (fun w _ => by
  have h1 : (0 : Int) ≤ (j : Int) ∧ (j : Int) < (n : Int) := by omega
  unfold execOp
  simp [ho, hx, hy, Instr.indexAt, asIntOf, run_underlying hu, Instr.sureAddr, h1, hs, Addr.add_mid, hj]) next
theorem det_field {o : Oper} {rest : List Oper} {a : Act} (ty : TypeId) (x : Operand) (c f j : Nat) (hw : Region.wanted o (yielded ops a.tmps) = true) (ho : o.op = .fieldAddr ty x f) (hx : a.eval x = .pointer (some ⟨c, 0, none⟩))
  (hr : ∀ w, (Instr.fieldAt ty (.pointer (some ⟨c, 0, none⟩)) f).run P w = .ok (.pointer (some ⟨c, j, none⟩)) w)
  (next : wpDet P ops C D rest (a.put o.dst (.pointer (some ⟨c, j, none⟩)))) : wpDet P ops C D (o :: rest) a :=
 det_val _ hw (fun w _ => by unfold execOp; simp only [ho, hx, Sem.run_bind, hr, Result.andThen_ok, Sem.run_pure]) next
theorem run_eqItems_bytes {e : TypeId} {i : TypeInfo} (he : P.underlying e = some (.int .u8)) (hi : P.info? e = some i) (d : Nat) (xs ys : List UInt8) (w : World) : ∀ is : List Nat, (∀ j ∈ is, j < xs.length ∧ j < ys.length) →
  (Op.eqItems (d + 1) e 1 (xs.map bval).toArray (ys.map bval).toArray is).run P w = .ok (is.all fun j => decide (xs.getD j 0 = ys.getD j 0)) w
 | [], _ => by simp [Op.eqItems]
 | j :: is, h => by
  obtain ⟨g1, g2⟩ := h j (List.mem_cons_self ..)
  have ih := run_eqItems_bytes he hi d xs ys w is (fun k hk => h k (List.mem_cons_of_mem _ hk))
  have p1 : ∀ zs : List UInt8, j < zs.length → (part e (zs.map bval).toArray (j * 1)).run P w = .ok (bval (zs.getD j 0)) w := by
   intro zs hz
   simp [part, isAgg, run_underlying he, hz, List.getD]
  simp only [Op.eqItems, Sem.run_bind, p1 xs g1, p1 ys g2, Result.andThen_ok, Op.equalIn, run_underlying he]
  have hbv : ∀ z : UInt8, bval z = .int .u8 (z.toNat : Int) := fun _ => rfl
  simp only [hbv]
  by_cases hq : xs.getD j 0 = ys.getD j 0
  ·simp only [hq, if_true, beq_self_eq_true, Sem.run_pure, Result.andThen_ok, Bool.not_true, Bool.false_eq_true, if_false, ih, List.all_cons, decide_true, Bool.true_and]
  ·have hb : (((xs.getD j 0).toNat : Int) == ((ys.getD j 0).toNat : Int)) = false := by
    rw [beq_eq_false_iff_ne]
    intro h'
    exact hq (UInt8.toNat_inj.1 (by omega))
   simp only [if_true, hb, Sem.run_pure, Result.andThen_ok, Bool.not_false, List.all_cons, hq, decide_false, Bool.false_and]
theorem run_equal_bytes {ty e : TypeId} {n : Nat} {i : TypeInfo} (hu : P.underlying ty = some (.array n e)) (he : P.underlying e = some (.int .u8)) (hi : P.info? e = some i) (hc : P.cellsOf e = 1) (xs ys : List UInt8) (hx : xs.length = n) (hy : ys.length = n) (w : World) :
  (Op.equal ty (.agg (xs.map bval).toArray) (.agg (ys.map bval).toArray)).run P w = .ok (decide (xs = ys)) w := by
 have h1 := run_equalIn_array (P := P) w 9999 (xs.map bval).toArray (ys.map bval).toArray hu hi
 rw [hc, run_eqItems_bytes he hi 9998 xs ys w (List.range n) (fun j hj => by have := List.mem_range.1 hj; omega)] at h1
 refine Eq.trans h1 ?_
 congr 1
 rw [Bool.eq_iff_iff, List.all_eq_true, decide_eq_true_iff]
 constructor
 ·intro h
  apply List.ext_getElem (by omega)
  intro k hk1 hk2
  have := h k (List.mem_range.2 (by omega))
  simpa [List.getD, hk1, hk2] using this
 ·rintro rfl j _
  simp
theorem det_eql {o : Oper} {rest : List Oper} {a : Act} (b : BinOp) (ty rt e : TypeId) (x y : Operand) (n : Nat) (i : TypeInfo) (xs ys : List UInt8) (r : Bool) (hw : Region.wanted o (yielded ops a.tmps) = true) (ho : o.op = .binOp b ty x y rt)
  (hb : b = .eql ∧ decide (xs = ys) = r ∨ b = .neq ∧ decide (xs = ys) = !r)
  (hu : P.underlying ty = some (.array n e)) (he : P.underlying e = some (.int .u8)) (hi : P.info? e = some i) (hc : P.cellsOf e = 1) (hg : P.eqGuardType P.depth ty = false)
  (hx : a.eval x = .agg (xs.map bval).toArray) (hy : a.eval y = .agg (ys.map bval).toArray) (lx : xs.length = n) (ly : ys.length = n)
  (next : wpDet P ops C D rest (a.put o.dst (.bool r))) : wpDet P ops C D (o :: rest) a :=
 det_val _ hw (fun w _ => by
  have h1 := run_equal_bytes hu he hi hc xs ys lx ly w
  rcases hb with ⟨rfl, hb⟩ | ⟨rfl, hb⟩
  ·rw [hb] at h1
   unfold execOp
   simp [ho, hx, hy, eqGuard, hg, binOp, h1]
  ·rw [hb] at h1
   unfold execOp
   simp [ho, hx, hy, eqGuard, hg, binOp, h1]) next
theorem end_none {listed : Array Bool} {a : Act} {w : World} (hr : Region.ready md ops listed = []) (h : ∀ w', Ext w w' → Q .normal a w') : wpAnyB P md ops Q t 0 listed a w.drew :=
 fun w' hw' => ⟨hr, h w' ((Ext.drew w).trans hw')⟩
theorem end_store {k : Nat} {o : Oper} {listed : Array Bool} {a : Act} {w : World} (hk : ops[k]? = some o) (hr : Region.ready md ops listed = [k]) (hr2 : Region.ready md ops (listed.setIfInBounds k true) = []) (hd : doneB t listed = true) (hg : o.guard = none)
  (h : ∀ w', Ext w w' → o.wp P a w' (fun a' w'' => Q .normal a' w'') Q) : wpAnyB P md ops Q t 1 listed a w.drew := by
 refine ⟨fun _ w' hw' => ⟨fun h0 => (by rw [hr] at h0; cases h0), fun i hi => ?_⟩, fun h0 => (by rw [hd] at h0; cases h0)⟩
 rw [hr] at hi
 obtain rfl : i = k := by simpa using hi
 unfold wpOp
 simp only [hk, Region.wanted, hg, if_true]
 exact Or.inl (Oper.wp_mono (fun a' w'' h' => ⟨hr2, h'⟩) (h w' ((Ext.drew w).trans hw')))
theorem end_alloc {k : Nat} {o1 o2 : Oper} {listed : Array Bool} {a : Act} {w : World} (hk : ops[k]? = some o1) (hk2 : ops[k + 1]? = some o2) (hr : Region.ready md ops listed = [k]) (hr2 : Region.ready md ops (listed.setIfInBounds k true) = [k + 1])
  (hr3 : Region.ready md ops ((listed.setIfInBounds k true).setIfInBounds (k + 1) true) = []) (hd : doneB t listed = false) (hd2 : doneB t (listed.setIfInBounds k true) = true) (hg : o1.guard = none) (hg2 : o2.guard = none)
  (h : ∀ w', Ext w w' → o1.wp P a w' (fun a' w'' => Ext w' w'' ∧ ∀ w3, Ext w'' w3 → o2.wp P a' w3 (fun a'' w4 => Q .normal a'' w4) Q) Q) : wpAnyB P md ops Q t 2 listed a w.drew := by
 refine ⟨fun h0 => (by rw [hd] at h0; cases h0), fun _ w' hw' => ⟨by rw [hr]; simp, fun i hi => ?_⟩⟩
 rw [hr] at hi
 obtain rfl : i = k := by simpa using hi
 unfold wpOp
 simp only [hk, Region.wanted, hg, if_true]
 refine Or.inl (Oper.wp_mono (fun a' w'' h' => ⟨h'.1, ?_⟩) (h w' ((Ext.drew w).trans hw')))
 refine ⟨fun _ w3 hw3 => ⟨fun h0 => (by rw [hr2] at h0; cases h0), fun j hj => ?_⟩, fun h0 => (by rw [hd2] at h0; cases h0)⟩
 rw [hr2] at hj
 obtain rfl : j = i + 1 := by simpa using hj
 unfold wpOp
 simp only [hk2, Region.wanted, hg2, if_true]
 exact Or.inl (Oper.wp_mono (fun a'' w4 h4 => ⟨hr3, h4⟩) (h'.2 w3 hw3))
theorem end_set {k : Nat} {o : Oper} {listed : Array Bool} {a : Act} {w : World} (ty tb : TypeId) (x y : Operand) (c : Nat) (vs cs : List Value) (hk : ops[k]? = some o) (hr : Region.ready md ops listed = [k]) (hr2 : Region.ready md ops (listed.setIfInBounds k true) = []) (hd : doneB t listed = true) (hg : o.guard = none)
  (ho : o.op = .store ty x y) (hx : a.eval x = .pointer (some ⟨c, 0, none⟩)) (hy : a.eval y = .agg vs.toArray) (hb : Blk w c cs tb) (hl : vs.length = cs.length) (hi : (P.info? ty).map (·.size) = some vs.length) (h1 : ∀ v ∈ vs, v.oneCell' = true)
  (h : ∀ w', Blk w' c vs tb → w.grownBy w' (some c) → Q .normal (a.put o.dst undef) w') : wpAnyB P md ops Q t 1 listed a w.drew :=
 end_store hk hr hr2 hd hg fun w' hw' => wp_store_blk ty x y ho c vs hx hy tb cs (hb.same (hw'.block _ hb.lt)) hl hi h1 fun w4 hb4 hg4 => h w4 hb4 (grownBy_trans (grown_of_below hw' _) hg4)
theorem end_var {k : Nat} {o1 o2 : Oper} {listed : Array Bool} {a : Act} {w : World} (ty : TypeId) (d : Nat) (y : Operand) (zs vs : List Value) (hk : ops[k]? = some o1) (hk2 : ops[k + 1]? = some o2) (hr : Region.ready md ops listed = [k]) (hr2 : Region.ready md ops (listed.setIfInBounds k true) = [k + 1])
  (hr3 : Region.ready md ops ((listed.setIfInBounds k true).setIfInBounds (k + 1) true) = []) (hd : doneB t listed = false) (hd2 : doneB t (listed.setIfInBounds k true) = true) (hg : o1.guard = none) (hg2 : o2.guard = none)
  (ho : o1.op = .alloc ty) (hdst : o1.dst = some d) (hz : ∀ w, (zeroValue ty).run P w = .ok (.agg zs.toArray) w)
  (ho2 : o2.op = .store ty (.tmp d) y) (hd' : d < a.tmps.size) (hy : ∀ p, (a.put (some d) (.pointer (some ⟨p, 0, none⟩))).eval y = .agg vs.toArray) (hl : vs.length = zs.length) (hi : (P.info? ty).map (·.size) = some vs.length) (h1 : ∀ v ∈ vs, v.oneCell' = true)
  (h : ∀ p w', w.heap.size ≤ p → Blk w' p vs ty → Ext w w' → Q .normal ((a.put (some d) (.pointer (some ⟨p, 0, none⟩))).put o2.dst undef) w') : wpAnyB P md ops Q t 2 listed a w.drew := by
 have hal : ∀ w, (execOp a.eval o1).run P w = .ok (.value (.pointer (some ⟨w.heap.size, 0, none⟩))) (w.alloc (.cells zs.toArray ty)) := fun w => by
  unfold execOp
  simp [ho, Instr.alloc, hz, newVar, newRow, Value.cells]
 refine end_alloc hk hk2 hr hr2 hr3 hd hd2 hg hg2 fun w' hw' => ?_
 unfold Oper.wp
 rw [hal w']
 simp only [Oper.upon, hdst]
 refine ⟨Ext.alloc _ _, fun w3 hw3 => ?_⟩
 have hb : Blk w3 w'.heap.size zs ty := (Blk.made w' zs ty).same (hw3.block _ (Blk.made w' zs ty).lt)
 refine wp_store_blk ty (.tmp d) y ho2 w'.heap.size vs ?_ (hy _) ty zs hb hl hi h1 fun w4 hb4 hg4 => h _ w4 hw'.size hb4 ?_
 ·simp [Act.eval, Act.put, Array.getD, hd']
 ·exact Below.grown (hw'.trans ((Ext.alloc w' _).trans hw3)) hg4 (hw'.trans ((Ext.alloc w' _).trans hw3)).size (fun r hr => by cases hr; exact hw'.size)
theorem result_row {w : World} {fn : Func} {p : Tmp} {ty : TypeId} (h : fn.results = #[.cell p ty]) (tmps : Array Value) (c : Nat) (tb : TypeId) (cs : List Value) (d : TypeDesc)
  (hp : tmps.getD p undef = .pointer (some ⟨c, 0, none⟩)) (hb : Blk w c cs tb) (hu : P.underlying ty = some d) (hd : d.isRow = true) (hi : (P.info? ty).map (·.size) = some cs.length) :
  (results fn tmps).run P w = .ok (.agg cs.toArray) w :=
 results_cell_row h tmps w c tb cs.toArray (0, 0) d hp hb hu (by cases d <;> simp_all [TypeDesc.isRow]) (by simpa using hi)
theorem ext_blk {w w' : World} {c : Nat} {cs : List Value} {tb : TypeId} (h : Blk w c cs tb) (hb : Ext w w') : Blk w' c cs tb := h.same (hb.block _ h.lt)
theorem ext_range {w w' : World} {c : Nat} {cs : List Value} {tb : TypeId} (h : Blk w c cs tb) (hb : Ext w w') : w'.rangeAt c 0 cs := (ext_blk h hb).range
theorem ext_grown {a b d : World} {c : Nat} (h : Ext a b) (hg : b.grownBy d (some c)) (hc : a.heap.size ≤ c) : Ext a d := Below.grown h hg h.size (fun k hk => by cases hk; exact hc)
end
end
section
theorem getD_set_same {zs : List Int} {i : Nat} {z : Int} (h : i < zs.length) : (zs.set i z).getD i 0 = z := by simp [List.getD, h]
theorem getD_set_far {zs : List Int} {i j : Nat} {z : Int} (h : i ≠ j) : (zs.set i z).getD j 0 = zs.getD j 0 := by simp [List.getD, List.getElem?_set_ne h]
def leN : List UInt8 → Nat
 | [] => 0
 | b :: r => b.toNat + 256 * leN r
theorem bytes32 (l : List UInt8) (h : l.length = 32) : l = [l.getD 0 0, l.getD 1 0, l.getD 2 0, l.getD 3 0, l.getD 4 0, l.getD 5 0, l.getD 6 0, l.getD 7 0, l.getD 8 0, l.getD 9 0, l.getD 10 0, l.getD 11 0, l.getD 12 0, l.getD 13 0, l.getD 14 0, l.getD 15 0,
  l.getD 16 0, l.getD 17 0, l.getD 18 0, l.getD 19 0, l.getD 20 0, l.getD 21 0, l.getD 22 0, l.getD 23 0, l.getD 24 0, l.getD 25 0, l.getD 26 0, l.getD 27 0, l.getD 28 0, l.getD 29 0, l.getD 30 0, l.getD 31 0] := by
 match l, h with
 | [_, _, _, _, _, _, _, _, _, _, _, _, _, _, _, _, _, _, _, _, _, _, _, _, _, _, _, _, _, _, _, _], _ => rfl
theorem bval_get {l : List UInt8} {i : Nat} (h : i < l.length) : (l.map bval)[i]? = some (.int .u8 ((l.getD i 0).toNat : Int)) := by
 simp [bval, List.getD, h]
def bytesN : Nat → Nat → List UInt8
 | 0, _ => []
 | k + 1, n => UInt8.ofNat (n % 256) :: bytesN k (n / 256)
theorem bytesN_leN : ∀ (l : List UInt8), bytesN l.length (leN l) = l
 | [] => rfl
 | b :: r => by
  have hb := b.toNat_lt
  have e1 : (b.toNat + 256 * leN r) % 256 = b.toNat := by omega
  have e2 : (b.toNat + 256 * leN r) / 256 = leN r := by omega
  simp only [leN, List.length_cons, bytesN, e1, e2, bytesN_leN r]
  congr 1
  simp
theorem bytesN_length : ∀ (k n : Nat), (bytesN k n).length = k
 | 0, _ => rfl
 | k + 1, n => by simp [bytesN, bytesN_length k]
theorem leN_bytesN : ∀ (k n : Nat), leN (bytesN k n) = n % 256 ^ k
 | 0, n => by simp [bytesN, leN, Nat.mod_one]
 | k + 1, n => by
  have := leN_bytesN k (n / 256)
  have e1 : (UInt8.ofNat (n % 256)).toNat = n % 256 := by
   rw [UInt8.toNat_ofNat']
   omega
  simp only [bytesN, leN, this, e1, Nat.pow_succ]
  rw [Nat.mul_comm (256 ^ k) 256, Nat.mod_mul]
theorem bytesN_append : ∀ (m n x : Nat), bytesN (m + n) x = bytesN m x ++ bytesN n (x / 256 ^ m)
 | 0, n, x => by simp [bytesN]
 | m + 1, n, x => by
  rw [Nat.add_right_comm]
  simp only [bytesN, List.cons_append]
  rw [bytesN_append m n (x / 256), Nat.div_div_eq_div_mul, Nat.pow_succ, Nat.mul_comm 256]
theorem bytesN_mod : ∀ (m x : Nat), bytesN m (x % 256 ^ m) = bytesN m x
 | 0, _ => rfl
 | m + 1, x => by
  have e1 : x % 256 ^ (m + 1) % 256 = x % 256 := Nat.mod_mod_of_dvd _ ⟨256 ^ m, by rw [Nat.pow_succ, Nat.mul_comm]⟩
  have e2 : x % 256 ^ (m + 1) / 256 = x / 256 % 256 ^ m := by rw [Nat.pow_succ, Nat.mul_comm, Nat.mod_mul_right_div_self]
  simp only [bytesN, e1, e2, bytesN_mod m]
theorem leN_lt : ∀ (l : List UInt8), leN l < 256 ^ l.length
 | [] => by simp [leN]
 | b :: r => by
  have hb := b.toNat_lt
  have := leN_lt r
  simp only [leN, List.length_cons, Nat.pow_succ]
  omega
theorem andU1 (n : Nat) : bits .and .u8 (n : Int) 1 = ((n % 2 : Nat) : Int) := by
 have h : (BitVec.ofInt 8 1).toNat = 2 ^ 1 - 1 := by decide
 have key : (BitVec.ofInt 8 (n : Int) &&& BitVec.ofInt 8 1).toNat = ((n : Int) % ((2 ^ 8 : Nat) : Int)).toNat % 2 ^ 1 := by
  rw [BitVec.toNat_and, BitVec.toNat_ofInt, h, Nat.and_two_pow_sub_one_eq_mod]
 show IntKind.u8.wrap ((BitVec.ofInt 8 (n : Int) &&& BitVec.ofInt 8 1).toNat : Nat) = _
 rw [key, IntKind.wrap_u8]
 omega
theorem leN_bit : ∀ (l : List UInt8) (i : Nat), i < 8 * l.length → leN l / 2 ^ i % 2 = (l.getD (i / 8) 0).toNat / 2 ^ (i % 8) % 2
 | [], i, h => by simp at h
 | b :: r, i, h => by
  rcases Nat.lt_or_ge i 8 with h8 | h8
  ·have e1 : i / 8 = 0 := by omega
   have e2 : i % 8 = i := by omega
   rw [e1, e2]
   simp only [leN, List.getD_cons_zero]
   generalize leN r = R
   generalize b.toNat = c
   rcases (by omega : i = 0 ∨ i = 1 ∨ i = 2 ∨ i = 3 ∨ i = 4 ∨ i = 5 ∨ i = 6 ∨ i = 7) with rfl | rfl | rfl | rfl | rfl | rfl | rfl | rfl <;> simp only [Nat.reducePow] <;> omega
  ·obtain ⟨j, rfl⟩ : ∃ j, i = 8 + j := ⟨i - 8, by omega⟩
   have hb := b.toNat_lt
   have e1 : (8 + j) / 8 = j / 8 + 1 := by omega
   have e2 : (8 + j) % 8 = j % 8 := by omega
   rw [e1, e2, List.getD_cons_succ, ← leN_bit r j (by rw [List.length_cons] at h; omega), Nat.pow_add, ← Nat.div_div_eq_div_mul]
   congr 2
   simp only [leN]
   omega
theorem w64 {a : Nat} (ha : a < 18446744073709551616) : IntKind.u64.wrap (a : Int) = (a : Int) := by rw [IntKind.wrap_u64]; omega
theorem w64m (a : Nat) : IntKind.u64.wrap (a : Int) = ((a % 18446744073709551616 : Nat) : Int) := by rw [IntKind.wrap_u64]; omega
theorem natMul (a b : Nat) : (a : Int) * (b : Int) = ((a * b : Nat) : Int) := (Int.natCast_mul a b).symm
theorem natAdd (a b : Nat) : (a : Int) + (b : Int) = ((a + b : Nat) : Int) := (Int.natCast_add a b).symm
theorem or64 (a b : Nat) (ha : a < 18446744073709551616) (hb : b < 18446744073709551616) : bits .or .u64 (a : Int) (b : Int) = ((a ||| b : Nat) : Int) := by
 have e1 : (BitVec.ofInt 64 (a : Int)).toNat = a := by rw [BitVec.toNat_ofInt]; omega
 have e2 : (BitVec.ofInt 64 (b : Int)).toNat = b := by rw [BitVec.toNat_ofInt]; omega
 show IntKind.u64.wrap ((BitVec.ofInt 64 (a : Int) ||| BitVec.ofInt 64 (b : Int)).toNat : Nat) = _
 have e3 := (BitVec.ofInt 64 (a : Int) ||| BitVec.ofInt 64 (b : Int)).isLt
 rw [BitVec.toNat_or, e1, e2] at e3 ⊢
 exact w64 e3
theorem or_sum (k x y : Nat) (hx : x < 2 ^ k) : 2 ^ k * y ||| x = 2 ^ k * y + x := (Nat.two_pow_add_eq_or_of_lt hx y).symm
theorem bl_range {w w' : World} {c : Nat} {cs : List Value} {t : TypeId} (h : Blk w c cs t) (hb : Below w.heap.size w w') : w'.rangeAt c 0 cs := (h.same (hb.block _ h.lt)).range
def smL (n : UInt8) : List UInt8 := n :: List.replicate 31 0
theorem leN_zeros : ∀ k, leN (List.replicate k 0) = 0
 | 0 => rfl
 | k + 1 => by rw [List.replicate_succ, leN, leN_zeros k]; rfl
def zer : List UInt8 := List.replicate 32 0
theorem zer_length : zer.length = 32 := by simp [zer]
theorem leN_zer : leN zer = 0 := leN_zeros 32
def zero32 : List Value := ints .u8 (List.replicate 32 0)
section
variable {P : Program}
theorem result_row_tmp {w : World} {fn : Func} {p u : Tmp} {ty : TypeId} (h : fn.results = #[.cell p ty, .tmp u]) (tmps : Array Value) (c : Nat) (tb : TypeId) (cs : List Value) (d : TypeDesc)
  (hp : tmps.getD p undef = .pointer (some ⟨c, 0, none⟩)) (hb : Blk w c cs tb) (hu : P.underlying ty = some d) (hd : d.isRow = true) (hi : (P.info? ty).map (·.size) = some cs.length) :
  (results fn tmps).run P w = .ok (.tuple #[.agg cs.toArray, tmps.getD u undef]) w := by
 rw [results_cell_tmp h, hp]
 simp only [asAddr, Sem.run_pure, Result.andThen_ok, run_loadVar_mid w c 0 ty cs d hb.range hu hd hi]
end
end
theorem Tryd.arr23 : (Tryd.prog.info? 23).map (·.size) = some 32 := by kernel_rfl
theorem num_info : Tryd.prog.info? 5 = some (Tryd.prog.info? 5).get! := by kernel_rfl
theorem num_cells : Tryd.prog.cellsOf 5 = 1 := by kernel_rfl
theorem num_guard : Tryd.prog.eqGuardType Tryd.prog.depth 23 = false := by kernel_rfl
theorem zer_size : (Tryd.prog.info? 23).map (·.size) = some (zer.map bval).length := by rw [List.length_map, zer_length]; exact Tryd.arr23
theorem build_zer (w : World) : (Instr.build 23 #[]).run Tryd.prog w = .ok (.agg (zer.map bval).toArray) w := by
 simp [Instr.build, Tryd.zeroValue23]
 rfl
theorem build_one (w : World) : (Instr.build 23 #[(0, .int .u8 1)]).run Tryd.prog w = .ok (.agg ((smL 1).map bval).toArray) w := by
 simp [Instr.build, Tryd.zeroValue23]
 rfl
theorem num_size {l : List UInt8} (h : l.length = 32) : (Tryd.prog.info? 23).map (·.size) = some (l.map bval).length := by rw [List.length_map, h]; exact Tryd.arr23
def pP : Int := 57896044618658097711785492504343953926634992332820282019728792003956564819949
def pN : Nat := 57896044618658097711785492504343953926634992332820282019728792003956564819949
theorem pP_nat : pP = (pN : Int) := rfl
def nb (x : Int) : List UInt8 := bytesN 32 (x % pP).toNat
theorem nb_length (x : Int) : (nb x).length = 32 := bytesN_length _ _
def numP (x : Int) : Value := .agg ((bytesN 32 (x % pP).toNat).map bval).toArray
section
def IsPrime (p : Nat) : Prop := 2 ≤ p ∧ ∀ d, d ∣ p → d = 1 ∨ d = p
theorem IsPrime.coprime {p a : Nat} (h : IsPrime p) (ha : ¬ p ∣ a) : Nat.Coprime p a := by
 rcases h.2 _ (Nat.gcd_dvd_left p a) with h1 | h1
 ·exact h1
 ·exact absurd (h1 ▸ Nat.gcd_dvd_right p a) ha
theorem IsPrime.dvd_mul {p a b : Nat} (h : IsPrime p) (hd : p ∣ a * b) : p ∣ a ∨ p ∣ b := by
 by_cases ha : p ∣ a
 ·exact Or.inl ha
 ·exact Or.inr ((h.coprime ha).dvd_of_dvd_mul_left hd)
theorem exists_prime_dvd : ∀ (n : Nat), 2 ≤ n → ∃ r, IsPrime r ∧ r ∣ n
 | n, hn => by
  by_cases h : ∀ d, d ∣ n → d = 1 ∨ d = n
  ·exact ⟨n, ⟨hn, h⟩, Nat.dvd_refl n⟩
  ·obtain ⟨d, hd⟩ := Classical.not_forall.1 h
   rw [Classical.not_imp] at hd
   obtain ⟨hdn, hd2⟩ := hd
   have h1 : d ≠ 1 := fun e => hd2 (Or.inl e)
   have h2 : d ≠ n := fun e => hd2 (Or.inr e)
   have h3 : d ≤ n := Nat.le_of_dvd (by omega) hdn
   have h0 : d ≠ 0 := fun e => by
    subst e
    have := Nat.eq_zero_of_zero_dvd hdn
    omega
   obtain ⟨r, hr, hrd⟩ := exists_prime_dvd d (by omega)
   exact ⟨r, hr, Nat.dvd_trans hrd hdn⟩
  termination_by n => n
theorem prime_of_roots {n : Nat} (hn : 2 ≤ n) (h : ∀ r, IsPrime r → r ∣ n → n < r * r) : IsPrime n := by
 refine ⟨hn, fun d hd => ?_⟩
 by_cases h1 : d = 1
 ·exact Or.inl h1
 ·by_cases h2 : d = n
  ·exact Or.inr h2
  ·exfalso
   obtain ⟨e, he⟩ := hd
   have hd0 : d ≠ 0 := fun e => by subst e; omega
   have he0 : e ≠ 0 := fun e' => by subst e'; omega
   have he1 : e ≠ 1 := fun e' => by subst e'; omega
   obtain ⟨r, hr, hrd⟩ := exists_prime_dvd d (by omega)
   obtain ⟨s, hs, hse⟩ := exists_prime_dvd e (by omega)
   have a1 := h r hr (he ▸ Nat.dvd_trans hrd (Nat.dvd_mul_right d e))
   have a2 := h s hs (he ▸ Nat.dvd_trans hse (Nat.dvd_mul_left e d))
   have b1 := Nat.le_of_dvd (by omega) hrd
   have b2 := Nat.le_of_dvd (by omega) hse
   have c1 := Nat.mul_le_mul b1 b1
   have c2 := Nat.mul_le_mul b2 b2
   have d1 : d * e < d * d := by omega
   have d2 : d * e < e * e := by omega
   have e1 := Nat.lt_of_mul_lt_mul_left d1
   have e2 : d < e := by
    rw [Nat.mul_comm d e] at d2
    exact Nat.lt_of_mul_lt_mul_left d2
   omega
def ch : Nat → Nat → Nat
 | _, 0 => 1
 | 0, _ + 1 => 0
 | n + 1, k + 1 => ch n k + ch n (k + 1)
theorem ch_mul : ∀ (n k : Nat), (k + 1) * ch (n + 1) (k + 1) = (n + 1) * ch n k
 | 0, 0 => by simp [ch]
 | 0, k + 1 => by simp [ch]
 | n + 1, 0 => by
  have := ch_mul n 0
  simp only [ch] at this ⊢
  omega
 | n + 1, k + 1 => by
  have h1 := ch_mul n k
  have h2 := ch_mul n (k + 1)
  have e : ch (n + 1 + 1) (k + 1 + 1) = ch (n + 1) (k + 1) + ch (n + 1) (k + 1 + 1) := rfl
  have e2 : ch (n + 1) (k + 1) = ch n k + ch n (k + 1) := rfl
  rw [e, Nat.mul_add, h2]
  have e3 : (k + 1 + 1) * ch (n + 1) (k + 1) = (k + 1) * ch (n + 1) (k + 1) + ch (n + 1) (k + 1) := by rw [Nat.add_mul (k + 1) 1, Nat.one_mul]
  rw [e3, h1, e2, Nat.mul_add (n + 1 + 1), Nat.add_mul (n + 1) 1 (ch n k), Nat.add_mul (n + 1) 1 (ch n (k + 1))]
  omega
theorem ch_over : ∀ (n k : Nat), n < k → ch n k = 0
 | _, 0, h => by omega
 | 0, k + 1, _ => rfl
 | n + 1, k + 1, h => by
  show ch n k + ch n (k + 1) = 0
  rw [ch_over n k (by omega), ch_over n (k + 1) (by omega)]
theorem ch_self : ∀ (n : Nat), ch n n = 1
 | 0 => rfl
 | n + 1 => by
  show ch n n + ch n (n + 1) = 1
  rw [ch_self n, ch_over n (n + 1) (by omega)]
def sumTo (f : Nat → Nat) : Nat → Nat
 | 0 => 0
 | m + 1 => sumTo f m + f m
theorem sumTo_shift (f : Nat → Nat) : ∀ m, sumTo f (m + 1) = f 0 + sumTo (fun k => f (k + 1)) m
 | 0 => by simp [sumTo]
 | m + 1 => by
  have := sumTo_shift f m
  simp only [sumTo] at this ⊢
  omega
theorem sumTo_add (f g : Nat → Nat) : ∀ m, sumTo (fun k => f k + g k) m = sumTo f m + sumTo g m
 | 0 => rfl
 | m + 1 => by
  have := sumTo_add f g m
  simp only [sumTo] at this ⊢
  omega
theorem sumTo_mul (c : Nat) (f : Nat → Nat) : ∀ m, sumTo (fun k => c * f k) m = c * sumTo f m
 | 0 => by simp [sumTo]
 | m + 1 => by
  have := sumTo_mul c f m
  simp only [sumTo, this, Nat.mul_add]
theorem sumTo_congr {f g : Nat → Nat} : ∀ m, (∀ k, k < m → f k = g k) → sumTo f m = sumTo g m
 | 0, _ => rfl
 | m + 1, h => by
  simp only [sumTo]
  rw [sumTo_congr m (fun k hk => h k (by omega)), h m (by omega)]
theorem binom (a : Nat) : ∀ n, (a + 1) ^ n = sumTo (fun k => ch n k * a ^ k) (n + 1)
 | 0 => by simp [sumTo, ch]
 | n + 1 => by
  have ih := binom a n
  have e1 : sumTo (fun k => ch (n + 1) k * a ^ k) (n + 1 + 1) = 1 + sumTo (fun k => ch (n + 1) (k + 1) * a ^ (k + 1)) (n + 1) := by
   rw [sumTo_shift]
   simp [ch]
  have e2 : sumTo (fun k => ch (n + 1) (k + 1) * a ^ (k + 1)) (n + 1) = a * sumTo (fun k => ch n k * a ^ k) (n + 1) + sumTo (fun k => ch n (k + 1) * a ^ (k + 1)) (n + 1) := by
   rw [← sumTo_mul, ← sumTo_add]
   refine sumTo_congr _ (fun k _ => ?_)
   show (ch n k + ch n (k + 1)) * a ^ (k + 1) = _
   rw [Nat.add_mul, Nat.pow_succ, Nat.mul_left_comm a, Nat.mul_comm a]
  have e3 : sumTo (fun k => ch n k * a ^ k) (n + 1 + 1) = 1 + sumTo (fun k => ch n (k + 1) * a ^ (k + 1)) (n + 1) := by
   rw [sumTo_shift]
   cases n <;> simp [ch]
  have e4 : sumTo (fun k => ch n k * a ^ k) (n + 1 + 1) = sumTo (fun k => ch n k * a ^ k) (n + 1) := by
   simp [sumTo, ch_over n (n + 1) (by omega)]
  rw [Nat.pow_succ, ih, e1, e2]
  rw [e4] at e3
  rw [Nat.mul_add, Nat.mul_one, Nat.mul_comm a]
  omega
theorem prime_ch {p k : Nat} (h : IsPrime p) (h0 : 0 < k) (hk : k < p) : p ∣ ch p k := by
 obtain ⟨k, rfl⟩ : ∃ j, k = j + 1 := ⟨k - 1, by omega⟩
 obtain ⟨n, rfl⟩ : ∃ n, p = n + 1 := ⟨p - 1, by omega⟩
 have hm := ch_mul n k
 rcases h.dvd_mul (a := k + 1) (b := ch (n + 1) (k + 1)) (hm ▸ Nat.dvd_mul_right _ _) with h1 | h1
 ·have := Nat.le_of_dvd (by omega) h1
  omega
 ·exact h1
theorem sumTo_dvd {p : Nat} {f : Nat → Nat} : ∀ m, (∀ k, k < m → p ∣ f k) → p ∣ sumTo f m
 | 0, _ => Nat.dvd_zero p
 | m + 1, h => Nat.dvd_add (sumTo_dvd m (fun k hk => h k (by omega))) (h m (by omega))
theorem fermat {p : Nat} (h : IsPrime p) : ∀ a, a ^ p % p = a % p
 | 0 => by
  rw [Nat.zero_pow (by have := h.1; omega)]
 | a + 1 => by
  have ih := fermat h a
  obtain ⟨n, rfl⟩ : ∃ n, p = n + 1 := ⟨p - 1, by have := h.1; omega⟩
  have hd : (n + 1) ∣ sumTo (fun k => ch (n + 1) (k + 1) * a ^ (k + 1)) n := sumTo_dvd n (fun k hk => Nat.dvd_trans (prime_ch h (by omega) (by omega)) (Nat.dvd_mul_right _ _))
  have e : (a + 1) ^ (n + 1) = 1 + sumTo (fun k => ch (n + 1) (k + 1) * a ^ (k + 1)) n + a ^ (n + 1) := by
   rw [binom, sumTo_shift]
   simp only [sumTo, ch_self]
   simp [ch]
   omega
  obtain ⟨t, ht⟩ := hd
  rw [e, ht]
  generalize a ^ (n + 1) = X at *
  generalize n + 1 = q at *
  rw [show 1 + q * t + X = 1 + X + q * t from by omega, Nat.add_mul_mod_self_left, Nat.add_mod, ih, ← Nat.add_mod, Nat.add_comm]
theorem fermat1 {p a : Nat} (h : IsPrime p) (ha : ¬ p ∣ a) : a ^ (p - 1) % p = 1 := by
 have hf := fermat h a
 have hp := h.1
 obtain ⟨n, rfl⟩ : ∃ n, p = n + 1 := ⟨p - 1, by omega⟩
 have ha0 : 0 < a := by
  rcases Nat.eq_zero_or_pos a with e | e
  ·subst e
   exact absurd (Nat.dvd_zero _) ha
  ·exact e
 have hpos : 0 < a ^ n := Nat.pow_pos ha0
 rw [Nat.pow_succ] at hf
 have hle : a ≤ a ^ n * a := Nat.le_mul_of_pos_left a hpos
 have hd : (n + 1) ∣ a ^ n * a - a := (Nat.dvd_iff_mod_eq_zero).2 (Nat.sub_mod_eq_zero_of_mod_eq hf)
 have e : a ^ n * a - a = a * (a ^ n - 1) := by rw [Nat.mul_sub, Nat.mul_one, Nat.mul_comm a]
 rw [e] at hd
 rcases h.dvd_mul hd with h1 | h1
 ·exact absurd h1 ha
 ·rw [Nat.add_sub_cancel]
  obtain ⟨t, ht⟩ := h1
  have : a ^ n = 1 + (n + 1) * t := by omega
  rw [this, Nat.add_mul_mod_self_left]
  exact Nat.mod_eq_of_lt (by omega)
end
theorem pow_gcd {r b : Nat} : ∀ (u v : Nat), b ^ u % r = 1 % r → b ^ v % r = 1 % r → b ^ (Nat.gcd u v) % r = 1 % r := by
 intro u v
 induction u, v using Nat.gcd.induction with
 | H0 n =>
  intro _ h
  rwa [Nat.gcd_zero_left]
 | H1 m n hm ih =>
  intro h1 h2
  rw [Nat.gcd_rec]
  refine ih ?_ h1
  have e : b ^ n = (b ^ m) ^ (n / m) * b ^ (n % m) := by rw [← Nat.pow_mul, ← Nat.pow_add, Nat.div_add_mod]
  rw [e, Nat.mul_mod, Nat.pow_mod, h1, ← Nat.pow_mod, Nat.one_pow, ← Nat.mul_mod, Nat.one_mul] at h2
  exact h2
theorem pock {r q m b : Nat} (hr : IsPrime r) (hq : IsPrime q) (h1 : b ^ (m * q) % r = 1 % r) (h2 : b ^ m % r ≠ 1 % r) : q ∣ r - 1 := by
 apply Classical.byContradiction
 intro hn
 have hg := hq.coprime hn
 have hr2 := hr.1
 have hc : (b ^ m) ^ q % r = 1 % r := by rw [← Nat.pow_mul]; exact h1
 have hnd : ¬ r ∣ b ^ m := fun hd => by
  obtain ⟨t, ht⟩ := hd
  rw [ht, Nat.pow_mod, Nat.mul_mod_right, Nat.zero_pow (by have := hq.1; omega), Nat.zero_mod, Nat.mod_eq_of_lt (by omega)] at hc
  omega
 have hf : (b ^ m) ^ (r - 1) % r = 1 % r := by
  rw [fermat1 hr hnd, Nat.mod_eq_of_lt (by omega)]
 have := pow_gcd q (r - 1) hc hf
 rw [hg, Nat.pow_one] at this
 exact h2 this
def pm (n : Nat) : Nat → Nat → Nat → Nat
 | 0, _, _ => 1 % n
 | f + 1, b, e => if e % 2 = 1 then b * pm n f (b * b % n) (e / 2) % n else pm n f (b * b % n) (e / 2)
theorem pm_eq {n : Nat} : ∀ (f b e : Nat), e < 2 ^ f → pm n f b e = b ^ e % n
 | 0, b, e, h => by
  have : e = 0 := by simpa using h
  subst this
  rfl
 | f + 1, b, e, h => by
  have hh : e / 2 < 2 ^ f := by rw [Nat.pow_succ] at h; omega
  have e1 : (b * b % n) ^ (e / 2) % n = b ^ (2 * (e / 2)) % n := by rw [← Nat.pow_mod, ← Nat.pow_two, ← Nat.pow_mul]
  simp only [pm, pm_eq f _ _ hh]
  by_cases ho : e % 2 = 1
  ·rw [if_pos ho, e1, Nat.mul_mod, Nat.mod_mod, ← Nat.mul_mod, Nat.mul_comm b, ← Nat.pow_succ]
   congr 2
   omega
  ·rw [if_neg ho, e1]
   congr 2
   omega
def wit (N q b f : Nat) : Bool := decide ((N - 1) % q = 0) && decide (N - 1 < 2 ^ f) && decide (pm N f b (N - 1) = 1) && decide (Nat.gcd (pm N f b ((N - 1) / q) + (N - 1)) N = 1)
theorem wit_dvd {N q b f r : Nat} (hN : 2 ≤ N) (h : wit N q b f = true) (hq : IsPrime q) (hr : IsPrime r) (hd : r ∣ N) : q ∣ r - 1 := by
 unfold wit at h
 simp only [Bool.and_eq_true, decide_eq_true_eq] at h
 obtain ⟨⟨⟨h1, h2⟩, h3⟩, h4⟩ := h
 have hle : (N - 1) / q ≤ N - 1 := Nat.div_le_self _ _
 rw [pm_eq _ _ _ h2] at h3
 rw [pm_eq _ _ _ (by omega)] at h4
 have hm : (N - 1) / q * q = N - 1 := Nat.div_mul_cancel (Nat.dvd_of_mod_eq_zero h1)
 have hr2 := hr.1
 refine pock (m := (N - 1) / q) (b := b) hr hq ?_ ?_
 ·rw [hm]
  obtain ⟨t, ht⟩ := hd
  have : b ^ (N - 1) % N % r = 1 % r := by rw [h3]
  rwa [Nat.mod_mod_of_dvd _ ⟨t, ht⟩] at this
 ·intro hb
  have hdr : r ∣ b ^ ((N - 1) / q) % N + (N - 1) := by
   apply Nat.dvd_of_mod_eq_zero
   rw [Nat.add_mod, Nat.mod_mod_of_dvd _ hd, hb, ← Nat.add_mod]
   have : 1 + (N - 1) = N := by omega
   rw [this]
   exact Nat.mod_eq_zero_of_dvd hd
  have := Nat.dvd_gcd hdr hd
  rw [h4] at this
  have := Nat.le_of_dvd (by omega) this
  omega
theorem prime_by1 {N q b f : Nat} (hN : 2 ≤ N) (hq : IsPrime q) (h : wit N q b f = true) (hF : N < (q + 1) * (q + 1)) : IsPrime N := by
 refine prime_of_roots hN (fun r hr hd => ?_)
 have h1 := wit_dvd hN h hq hr hd
 have hr2 := hr.1
 have := Nat.le_of_dvd (by omega) h1
 exact Nat.lt_of_lt_of_le hF (Nat.mul_le_mul (by omega) (by omega))
theorem prime_by2 {N q s b c f : Nat} (hN : 2 ≤ N) (hq : IsPrime q) (hs : IsPrime s) (hqs : q ≠ s) (h : wit N q b f = true) (h' : wit N s c f = true) (hF : N < (q * s + 1) * (q * s + 1)) : IsPrime N := by
 refine prime_of_roots hN (fun r hr hd => ?_)
 have h1 := wit_dvd hN h hq hr hd
 have h2 := wit_dvd hN h' hs hr hd
 have hr2 := hr.1
 have hc : Nat.Coprime q s := hq.coprime (fun hd => by
  rcases hs.2 q hd with e | e
  ·have := hq.1; omega
  ·exact hqs e)
 have := Nat.le_of_dvd (by omega) (hc.mul_dvd_of_dvd_of_dvd h1 h2)
 exact Nat.lt_of_lt_of_le hF (Nat.mul_le_mul (by omega) (by omega))
def small (n m : Nat) : Bool := (List.range m).all fun d => decide (n % (d + 2) ≠ 0)
theorem prime_small {n m : Nat} (hn : 2 ≤ n) (h : small n m = true) (hm : n < (m + 2) * (m + 2)) : IsPrime n := by
 refine prime_of_roots hn (fun r hr hd => ?_)
 have hr2 := hr.1
 rcases Nat.lt_or_ge r (m + 2) with h1 | h1
 ·unfold small at h
  rw [List.all_eq_true] at h
  have := h (r - 2) (by rw [List.mem_range]; omega)
  simp only [decide_eq_true_eq] at this
  rw [show r - 2 + 2 = r from by omega] at this
  exact absurd (Nat.mod_eq_zero_of_dvd hd) this
 ·exact Nat.lt_of_lt_of_le hm (Nat.mul_le_mul h1 h1)
theorem prime_127 : IsPrime 127 := prime_small (m := 10) (by decide) (by decide +kernel) (by decide)
theorem prime_4153 : IsPrime 4153 := prime_small (m := 63) (by decide) (by decide +kernel) (by decide)
theorem prime_430751 : IsPrime 430751 := prime_small (m := 655) (by decide) (by decide +kernel) (by decide)
theorem prime_569003 : IsPrime 569003 := prime_small (m := 753) (by decide) (by decide +kernel) (by decide)
theorem prime_8574133 : IsPrime 8574133 := prime_small (m := 2927) (by decide) (by decide +kernel) (by decide)
theorem prime_a : IsPrime 2773320623 := prime_by1 (q := 569003) (b := 5) (f := 32) (by decide) prime_569003 (by decide +kernel) (by decide)
theorem prime_b : IsPrime 72106336199 := prime_by1 (q := 2773320623) (b := 2) (f := 37) (by decide) prime_a (by decide +kernel) (by decide)
theorem prime_c : IsPrime 1919519569386763 := prime_by2 (q := 8574133) (s := 127) (b := 2) (c := 2) (f := 51) (by decide) prime_8574133 prime_127 (by decide) (by decide +kernel) (by decide +kernel) (by decide)
theorem prime_d : IsPrime 31757755568855353 := prime_by2 (q := 430751) (s := 4153) (b := 2) (c := 2) (f := 55) (by decide) prime_430751 prime_4153 (by decide) (by decide +kernel) (by decide +kernel) (by decide)
theorem prime_e : IsPrime 75445702479781427272750846543864801 := prime_by2 (q := 1919519569386763) (s := 72106336199) (b := 2) (c := 2) (f := 116) (by decide) prime_c prime_b (by decide) (by decide +kernel) (by decide +kernel) (by decide)
theorem prime_f : IsPrime 74058212732561358302231226437062788676166966415465897661863160754340907 := prime_by2 (q := 75445702479781427272750846543864801) (s := 31757755568855353) (b := 2) (c := 2) (f := 236) (by decide) prime_e prime_d (by decide) (by decide +kernel) (by decide +kernel) (by decide)
theorem prime_p : IsPrime 57896044618658097711785492504343953926634992332820282019728792003956564819949 := prime_by1 (q := 74058212732561358302231226437062788676166966415465897661863160754340907) (b := 2) (f := 255) (by decide) prime_f (by decide +kernel) (by decide)
theorem prime_pN : IsPrime pN := prime_p
theorem p_domain {x y : Int} (h : pP ∣ x * y) : pP ∣ x ∨ pP ∣ y := by
 rw [pP_nat] at *
 have h1 := Int.natAbs_dvd_natAbs.2 h
 rw [Int.natAbs_mul, Int.natAbs_natCast] at h1
 rcases prime_pN.dvd_mul h1 with h2 | h2
 ·exact Or.inl (Int.natAbs_dvd_natAbs.1 (by rw [Int.natAbs_natCast]; exact h2))
 ·exact Or.inr (Int.natAbs_dvd_natAbs.1 (by rw [Int.natAbs_natCast]; exact h2))
def Cong (x y : Int) : Prop := pP ∣ x - y
theorem Cong.refl (x : Int) : Cong x x := by unfold Cong; rw [Int.sub_self]; exact Int.dvd_zero _
theorem Cong.symm {x y : Int} (h : Cong x y) : Cong y x := by
 obtain ⟨q, hq⟩ := h
 exact ⟨-q, by grind⟩
theorem Cong.trans {x y z : Int} (h : Cong x y) (g : Cong y z) : Cong x z := by
 obtain ⟨q, hq⟩ := h
 obtain ⟨r, hr⟩ := g
 exact ⟨q + r, by grind⟩
theorem Cong.add {x y u v : Int} (h : Cong x y) (g : Cong u v) : Cong (x + u) (y + v) := by
 obtain ⟨q, hq⟩ := h
 obtain ⟨r, hr⟩ := g
 exact ⟨q + r, by grind⟩
theorem Cong.sub {x y u v : Int} (h : Cong x y) (g : Cong u v) : Cong (x - u) (y - v) := by
 obtain ⟨q, hq⟩ := h
 obtain ⟨r, hr⟩ := g
 exact ⟨q - r, by grind⟩
theorem Cong.mul {x y u v : Int} (h : Cong x y) (g : Cong u v) : Cong (x * u) (y * v) := by
 obtain ⟨q, hq⟩ := h
 obtain ⟨r, hr⟩ := g
 exact ⟨q * u + y * r, by
  have : x = y + pP * q := by grind
  have : u = v + pP * r := by grind
  subst x
  subst u
  grind⟩
theorem Cong.pow {x y : Int} (h : Cong x y) : ∀ n : Nat, Cong (x ^ n) (y ^ n)
 | 0 => by
  rw [Int.pow_zero, Int.pow_zero]
  exact Cong.refl _
 | n + 1 => by
  rw [Int.pow_succ, Int.pow_succ]
  exact (Cong.pow h n).mul h
theorem cong_iff {x y : Int} : Cong x y ↔ x % pP = y % pP := by
 constructor
 ·intro h
  exact Int.emod_eq_emod_iff_emod_sub_eq_zero.2 (Int.emod_eq_zero_of_dvd h)
 ·intro h
  exact Int.dvd_of_emod_eq_zero (Int.emod_eq_emod_iff_emod_sub_eq_zero.1 h)
theorem cong_mod (x : Int) : Cong (x % pP) x := by
 rw [cong_iff, Int.emod_emod]
theorem p_fermat {x : Int} (h : ¬ pP ∣ x) : Cong (x ^ (pN - 1)) 1 := by
 have hp0 : (0 : Int) < pP := by decide +kernel
 have h0 := Int.emod_nonneg x (show pP ≠ 0 by omega)
 obtain ⟨a, ha⟩ := Int.eq_ofNat_of_zero_le h0
 have hna : ¬ pN ∣ a := fun hd => h (by
  apply Int.dvd_of_emod_eq_zero
  have hlt := Int.emod_lt_of_pos x hp0
  rw [ha] at hlt ⊢
  obtain ⟨t, ht⟩ := hd
  rw [pP_nat] at hlt
  have : a < pN := by omega
  have ht0 : t = 0 := by
   rcases Nat.eq_zero_or_pos t with e | e
   ·exact e
   ·have := Nat.le_mul_of_pos_right pN e
    omega
  subst ht0
  rw [ht]
  simp)
 have hf := fermat1 prime_pN hna
 have h1 : Cong ((a : Int) ^ (pN - 1)) 1 := by
  rw [cong_iff, pP_nat, ← Int.natCast_pow]
  have : (1 : Int) % (pN : Int) = ((1 % pN : Nat) : Int) := by rw [Int.natCast_emod]; rfl
  rw [this, ← Int.natCast_emod, hf]
  rfl
 have h2 := (cong_mod x).pow (pN - 1)
 rw [ha] at h2
 exact h2.symm.trans h1
def pM : Nat := 28948022309329048855892746252171976963317496166410141009864396001978282409974
def pE : Nat := 7237005577332262213973186563042994240829374041602535252466099000494570602494
theorem pM_two : pN - 1 = pM + pM := by decide +kernel
theorem pE_four : pE + pE + (pE + pE) = pM + 2 := by decide +kernel
def sm1 : Int := 19681161376707505956807079304988542015446066515923890162744021073123829784752
theorem sm1_sq : Cong (sm1 * sm1) (-1) := by
 have : pP ∣ sm1 * sm1 - -1 := by decide +kernel
 exact this
theorem cong_zero {x : Int} : Cong x 0 ↔ pP ∣ x := by unfold Cong; rw [Int.sub_zero]
theorem p_one : ¬ pP ∣ (1 : Int) := by decide +kernel
theorem p_two : ¬ pP ∣ (2 : Int) := by decide +kernel
theorem cong_mul_zero {x y : Int} (h : Cong (x * y) 0) : Cong x 0 ∨ Cong y 0 := by
 rw [cong_zero] at h
 rcases p_domain h with h | h
 ·exact Or.inl (cong_zero.2 h)
 ·exact Or.inr (cong_zero.2 h)
theorem cong_sq {x y : Int} (h : Cong (x * x) (y * y)) : Cong x y ∨ Cong x (-y) := by
 have : Cong ((x - y) * (x + y)) 0 := by
  obtain ⟨q, hq⟩ := h
  exact ⟨q, by grind⟩
 rcases cong_mul_zero this with h | h
 ·left
  obtain ⟨q, hq⟩ := h
  exact ⟨q, by grind⟩
 ·right
  obtain ⟨q, hq⟩ := h
  exact ⟨q, by grind⟩
theorem half_of_square {x r : Int} (h : ¬ pP ∣ x) (hr : Cong (r * r) x) : Cong (x ^ pM) 1 := by
 have hr0 : ¬ pP ∣ r := fun hd => h (by
  obtain ⟨q, hq⟩ := hd
  obtain ⟨t, ht⟩ := hr
  exact ⟨q * r - t, by grind⟩)
 have h1 := hr.symm.pow pM
 have h2 : (r * r) ^ pM = r ^ (pN - 1) := by rw [pM_two, Int.pow_add, Int.mul_pow]
 rw [h2] at h1
 exact h1.trans (p_fermat hr0)
theorem eighth_power {x : Int} (h : Cong (x ^ pM) 1) : Cong (x ^ pE * x ^ pE) x ∨ Cong (x ^ pE * sm1 * (x ^ pE * sm1)) x := by
 have e : x ^ pE * x ^ pE * (x ^ pE * x ^ pE) = x ^ pM * (x * x) := by
  rw [← Int.pow_add, ← Int.pow_add, pE_four, Int.pow_add, Int.pow_succ, Int.pow_succ, Int.pow_zero, Int.one_mul]
 have h1 : Cong (x ^ pE * x ^ pE * (x ^ pE * x ^ pE)) (x * x) := by
  rw [e]
  have := h.mul (Cong.refl (x * x))
  rwa [Int.one_mul] at this
 rcases cong_sq h1 with h2 | h2
 ·exact Or.inl h2
 ·right
  have h3 := h2.mul sm1_sq
  have e2 : x ^ pE * sm1 * (x ^ pE * sm1) = x ^ pE * x ^ pE * (sm1 * sm1) := by grind
  rw [e2]
  have e3 : -x * -1 = x := by omega
  rwa [e3] at h3
theorem root_found {x : Int} (h : ¬ pP ∣ x) : (Cong (x ^ pE * x ^ pE) x ∨ Cong (x ^ pE * sm1 * (x ^ pE * sm1)) x) ↔ Cong (x ^ pM) 1 :=
 ⟨fun hr => by rcases hr with hr | hr <;> exact half_of_square h hr, eighth_power⟩
theorem inv_undo {x : Int} (h : ¬ pP ∣ x) : Cong (x * x ^ (pN - 2)) 1 := by
 have e : x * x ^ (pN - 2) = x ^ (pN - 1) := by
  have : pN - 1 = pN - 2 + 1 := by decide +kernel
  rw [this, Int.pow_succ, Int.mul_comm]
 rw [e]
 exact p_fermat h
instance : NeZero pN := ⟨by decide⟩
abbrev Fp := Fin pN
theorem pP_pos : (0 : Int) < pP := by decide +kernel
theorem pN_cast : ((pN : Nat) : Int) = pP := rfl
def fp (x : Int) : Fp := ⟨(x % pP).toNat, by
 have h0 := Int.emod_nonneg x (show pP ≠ 0 from Int.ne_of_gt pP_pos)
 have h1 := Int.emod_lt_of_pos x pP_pos
 rw [← pN_cast] at h1 h0 ⊢
 omega⟩
theorem fp_val (x : Int) : (fp x).val = (x % pP).toNat := rfl
theorem fp_int (x : Int) : ((fp x).val : Int) = x % pP := by
 have h0 := Int.emod_nonneg x (show pP ≠ 0 from Int.ne_of_gt pP_pos)
 rw [fp_val, Int.toNat_of_nonneg h0]
theorem fin_int {a b : Fp} (h : (a.val : Int) = b.val) : a = b := Fin.ext (Int.ofNat_inj.1 h)
theorem fp_eq {x y : Int} : fp x = fp y ↔ Cong x y := by
 rw [cong_iff, ← fp_int, ← fp_int]
 exact ⟨fun h => by rw [h], fin_int⟩
theorem fp_self (a : Fp) : fp a.val = a := by
 apply fin_int
 rw [fp_int, ← pN_cast, Int.emod_eq_of_lt (by omega) (by have := a.isLt; omega)]
theorem fp_add (x y : Int) : fp (x + y) = fp x + fp y := by
 apply fin_int
 rw [Fin.val_add, fp_int, Int.natCast_emod, Int.natCast_add, fp_int, fp_int, pN_cast, ← Int.add_emod]
theorem fp_mul (x y : Int) : fp (x * y) = fp x * fp y := by
 apply fin_int
 rw [Fin.val_mul, fp_int, Int.natCast_emod, Int.natCast_mul, fp_int, fp_int, pN_cast, ← Int.mul_emod]
theorem fp_zero : fp 0 = 0 := by
 apply fin_int
 rw [fp_int]
 rfl
theorem fp_one : fp 1 = 1 := by
 apply fin_int
 rw [fp_int]
 decide +kernel
theorem fp_neg (x : Int) : fp (-x) = -fp x := by
 have h : fp (-x) + fp x = 0 := by rw [← fp_add, Int.add_left_neg, fp_zero]
 grind
theorem fp_sub (x y : Int) : fp (x - y) = fp x - fp y := by
 rw [Int.sub_eq_add_neg, fp_add, fp_neg]
 grind
theorem fp_zero_iff {x : Int} : fp x = 0 ↔ pP ∣ x := by
 rw [← fp_zero, fp_eq, cong_zero]
theorem f_dom {a b : Fp} (h : a * b = 0) : a = 0 ∨ b = 0 := by
 rw [← fp_self a, ← fp_self b, ← fp_mul, fp_zero_iff] at h
 rcases p_domain h with h | h
 ·exact Or.inl (by rw [← fp_self a]; exact fp_zero_iff.2 h)
 ·exact Or.inr (by rw [← fp_self b]; exact fp_zero_iff.2 h)
theorem f_mul_ne {a b : Fp} (ha : a ≠ 0) (hb : b ≠ 0) : a * b ≠ 0 := fun h => by
 rcases f_dom h with h | h
 ·exact ha h
 ·exact hb h
theorem f_cancel {a b c : Fp} (hc : c ≠ 0) (h : a * c = b * c) : a = b := by
 have : (a - b) * c = 0 := by grind
 rcases f_dom this with h | h
 ·grind
 ·exact absurd h hc
def fi (a : Fp) : Fp := fp ((a.val : Int) ^ (pN - 2))
theorem fi_fp (x : Int) : fi (fp x) = fp (x ^ (pN - 2)) := by
 unfold fi
 rw [fp_eq, fp_int]
 exact (cong_mod x).pow _
theorem f_inv {a : Fp} (h : a ≠ 0) : a * fi a = 1 := by
 unfold fi
 have h' : ¬ pP ∣ (a.val : Int) := fun hd => h (by rw [← fp_self a]; exact fp_zero_iff.2 hd)
 have := fp_eq.2 (inv_undo h')
 rw [fp_mul, fp_self, fp_one] at this
 exact this
theorem f_one_ne : (1 : Fp) ≠ 0 := by
 rw [← fp_one]
 exact fun h => p_one (fp_zero_iff.1 h)
theorem f_two_ne : (2 : Fp) ≠ 0 := by
 have e : (2 : Fp) = fp 2 := by
  have h : fp 2 = fp 1 + fp 1 := fp_add 1 1
  rw [h, fp_one]
  decide +kernel
 rw [e]
 exact fun h => p_two (fp_zero_iff.1 h)
def dN : Int := 37095705934669439343138083508754565189542113879843219016388785533085940283555
theorem dN_half : (pm pN 255 37095705934669439343138083508754565189542113879843219016388785533085940283555 pM) = pN - 1 := by decide +kernel
theorem dN_not : ¬ Cong (dN ^ pM) 1 := by
 intro h
 have e := pm_eq (n := pN) 255 37095705934669439343138083508754565189542113879843219016388785533085940283555 pM (by decide +kernel)
 rw [dN_half] at e
 rw [cong_iff, dN, pP_nat] at h
 have e2 : (((37095705934669439343138083508754565189542113879843219016388785533085940283555 ^ pM % pN : Nat)) : Int) = (1 : Int) % (pN : Int) := by
  rw [Int.natCast_emod, Int.natCast_pow]
  exact h
 rw [← e] at e2
 revert e2
 decide +kernel
def dF : Fp := fp dN
theorem dF_ne : dF ≠ 0 := by
 intro h
 have := fp_zero_iff.1 h
 revert this
 decide +kernel
theorem dF_nonsq (r : Fp) : r * r ≠ dF := by
 intro h
 rw [← fp_self r, ← fp_mul, dF, fp_eq] at h
 refine dN_not (half_of_square (fun hd => dF_ne (fp_zero_iff.2 hd)) h)
def iF : Fp := fp sm1
theorem iF_sq : iF * iF = -1 := by
 rw [iF, ← fp_mul, ← fp_one, ← fp_neg, fp_eq]
 exact sm1_sq
def On (x y : Fp) : Prop := y * y - x * x = 1 + dF * (x * x * (y * y))
theorem d_ratio {a b : Fp} (h : a * a = dF * (b * b)) : b = 0 := by
 apply Classical.byContradiction
 intro hb
 have hf := f_inv hb
 refine dF_nonsq (a * fi b) ?_
 generalize fi b = c at *
 grind
theorem on_ne {x1 y1 x2 y2 : Fp} (h1 : On x1 y1) (h2 : On x2 y2) {s : Fp} (hs : s * s = 1) : dF * (x1 * x2 * (y1 * y2)) ≠ s := by
 intro hd
 have hi := iF_sq
 unfold On at h1 h2
 have hs0 : s ≠ 0 := fun e => f_one_ne (by rw [← hs, e]; grind)
 have k1 : dF * (x1 * x1 * (y1 * y1)) * (y2 * y2 - x2 * x2) = y1 * y1 - x1 * x1 := by
  have a1 : dF * (x1 * x1 * (y1 * y1)) * (y2 * y2 - x2 * x2) = dF * (x1 * x1 * (y1 * y1)) + (dF * (x1 * x2 * (y1 * y2))) * (dF * (x1 * x2 * (y1 * y2))) := by
   rw [h2]
   grind
  rw [a1, hd, hs]
  grind
 have k2 : (iF * x1 + s * y1) * (iF * x1 + s * y1) = dF * ((x1 * y1 * (y2 + iF * x2)) * (x1 * y1 * (y2 + iF * x2))) := by
  have a2 : dF * ((x1 * y1 * (y2 + iF * x2)) * (x1 * y1 * (y2 + iF * x2))) = dF * (x1 * x1 * (y1 * y1)) * (y2 * y2 + iF * iF * (x2 * x2)) + 2 * iF * (x1 * y1) * (dF * (x1 * x2 * (y1 * y2))) := by grind
  rw [a2, hd, hi]
  have a3 : y2 * y2 + -1 * (x2 * x2) = y2 * y2 - x2 * x2 := by grind
  rw [a3, k1]
  have a4 : (iF * x1 + s * y1) * (iF * x1 + s * y1) = iF * iF * (x1 * x1) + s * s * (y1 * y1) + 2 * iF * (x1 * y1) * s := by grind
  rw [a4, hi, hs]
  grind
 have k3 : (-iF * x1 + s * y1) * (-iF * x1 + s * y1) = dF * ((x1 * y1 * (y2 - iF * x2)) * (x1 * y1 * (y2 - iF * x2))) := by
  have a2 : dF * ((x1 * y1 * (y2 - iF * x2)) * (x1 * y1 * (y2 - iF * x2))) = dF * (x1 * x1 * (y1 * y1)) * (y2 * y2 + iF * iF * (x2 * x2)) - 2 * iF * (x1 * y1) * (dF * (x1 * x2 * (y1 * y2))) := by grind
  rw [a2, hd, hi]
  have a3 : y2 * y2 + -1 * (x2 * x2) = y2 * y2 - x2 * x2 := by grind
  rw [a3, k1]
  have a4 : (-iF * x1 + s * y1) * (-iF * x1 + s * y1) = iF * iF * (x1 * x1) + s * s * (y1 * y1) - 2 * iF * (x1 * y1) * s := by grind
  rw [a4, hi, hs]
  grind
 have z2 := d_ratio k2
 have z3 := d_ratio k3
 have hx : x1 * y1 ≠ 0 := fun e => hs0 (by
  have : dF * (x1 * x2 * (y1 * y2)) = dF * (x2 * y2) * (x1 * y1) := by grind
  rw [← hd, this, e]
  grind)
 have w2 : y2 + iF * x2 = 0 := by
  rcases f_dom z2 with e | e
  ·exact absurd e hx
  ·exact e
 have w3 : y2 - iF * x2 = 0 := by
  rcases f_dom z3 with e | e
  ·exact absurd e hx
  ·exact e
 have w4 : 2 * y2 = 0 := by grind
 have w5 : y2 = 0 := by
  rcases f_dom w4 with e | e
  ·exact absurd e f_two_ne
  ·exact e
 apply hs0
 rw [← hd, w5]
 grind
theorem on_plus {x1 y1 x2 y2 : Fp} (h1 : On x1 y1) (h2 : On x2 y2) : 1 + dF * (x1 * x2 * (y1 * y2)) ≠ 0 := fun h =>
 on_ne h1 h2 (s := -1) (by grind) (by grind)
theorem on_minus {x1 y1 x2 y2 : Fp} (h1 : On x1 y1) (h2 : On x2 y2) : 1 - dF * (x1 * x2 * (y1 * y2)) ≠ 0 := fun h =>
 on_ne h1 h2 (s := 1) (by grind) (by grind)
structure Pt where
 x : Fp
 y : Fp
 on : On x y
theorem Pt.ext' {P Q : Pt} (hx : P.x = Q.x) (hy : P.y = Q.y) : P = Q := by
 cases P; cases Q; cases hx; cases hy; rfl
theorem f_sub {a b : Fp} (h : a - b = 0) : a = b := by
 have e : a = (a - b) + b := by grind
 rw [e, h, Fin.zero_add]
theorem lin2 {L R c1 e1 c2 e2 : Fp} (h : L - R = c1 * e1 + c2 * e2) (h1 : e1 = 0) (h2 : e2 = 0) : L = R := by
 apply f_sub
 rw [h, h1, h2, Fin.mul_zero, Fin.mul_zero, Fin.zero_add]
theorem lin3 {L R c1 e1 c2 e2 c3 e3 : Fp} (h : L - R = c1 * e1 + c2 * e2 + c3 * e3) (h1 : e1 = 0) (h2 : e2 = 0) (h3 : e3 = 0) : L = R := by
 apply f_sub
 rw [h, h1, h2, h3, Fin.mul_zero, Fin.mul_zero, Fin.mul_zero, Fin.zero_add, Fin.zero_add]
theorem lin {L R A B : Fp} (c : Fp) (e : A = B) (h : L - R = c * (A - B)) : L = R := by
 apply f_sub
 have z : B - B = 0 := by grind
 rw [h, e, z, Fin.mul_zero]
theorem on_sum {x1 y1 x2 y2 x3 y3 d : Fp} (h1 : y1 * y1 - x1 * x1 = 1 + d * (x1 * x1 * (y1 * y1))) (h2 : y2 * y2 - x2 * x2 = 1 + d * (x2 * x2 * (y2 * y2)))
  (ha : 1 + d * (x1 * x2 * (y1 * y2)) ≠ 0) (hb : 1 - d * (x1 * x2 * (y1 * y2)) ≠ 0)
  (hx : x3 * (1 + d * (x1 * x2 * (y1 * y2))) = x1 * y2 + x2 * y1) (hy : y3 * (1 - d * (x1 * x2 * (y1 * y2))) = y1 * y2 + x1 * x2) : y3 * y3 - x3 * x3 = 1 + d * (x3 * x3 * (y3 * y3)) := by
 generalize hA : 1 + d * (x1 * x2 * (y1 * y2)) = A at *
 generalize hB : 1 - d * (x1 * x2 * (y1 * y2)) = B at *
 refine f_cancel (f_mul_ne (f_mul_ne ha ha) (f_mul_ne hb hb)) ?_
 have l : (y3 * y3 - x3 * x3) * (A * A * (B * B)) = (y3 * B) * (y3 * B) * (A * A) - (x3 * A) * (x3 * A) * (B * B) := by grind
 have r : (1 + d * (x3 * x3 * (y3 * y3))) * (A * A * (B * B)) = A * A * (B * B) + d * ((x3 * A) * (x3 * A) * ((y3 * B) * (y3 * B))) := by grind
 rw [l, r, hx, hy]
 clear l r hx hy ha hb x3 y3
 subst hA hB
 have e1 : y1 * y1 - x1 * x1 - 1 - d * (x1 * x1 * (y1 * y1)) = 0 := by grind
 have e2 : y2 * y2 - x2 * x2 - 1 - d * (x2 * x2 * (y2 * y2)) = 0 := by grind
 clear h1 h2
 have key : ((y1 * y2 + x1 * x2) * (y1 * y2 + x1 * x2) * ((1 + d * (x1 * x2 * (y1 * y2))) * (1 + d * (x1 * x2 * (y1 * y2)))) - (x1 * y2 + x2 * y1) * (x1 * y2 + x2 * y1) * ((1 - d * (x1 * x2 * (y1 * y2))) * (1 - d * (x1 * x2 * (y1 * y2))))) - ((1 + d * (x1 * x2 * (y1 * y2))) * (1 + d * (x1 * x2 * (y1 * y2))) * ((1 - d * (x1 * x2 * (y1 * y2))) * (1 - d * (x1 * x2 * (y1 * y2)))) + d * ((x1 * y2 + x2 * y1) * (x1 * y2 + x2 * y1) * ((y1 * y2 + x1 * x2) * (y1 * y2 + x1 * x2))))
  = (x1^2*y1^2*x2^4*y2^4*d^3 - x1^2*x2^4*y2^4*d^2 - x1^2*x2^4*y2^2*d + x1^2*x2^2*y2^4*d + y1^2*x2^4*y2^4*d^2 + y1^2*x2^4*y2^2*d - y1^2*x2^2*y2^4*d - x2^4*y2^4*d^2 - 2*x2^4*y2^4*d - 2*x2^4*y2^2 + x2^4 + 2*x2^2*y2^4 - 2*x2^2*y2^2*d - 4*x2^2*y2^2 + y2^4) * (y1 * y1 - x1 * x1 - 1 - d * (x1 * x1 * (y1 * y1))) + (x1^4*x2^2*y2^2*d + 2*x1^2*x2^2*y2^2*d + 2*x1^2*x2^2*y2^2 - x1^2*x2^2 + x1^2*y2^2 + y1^4*x2^2*y2^2*d - 2*y1^2*x2^2*y2^2*d - 2*y1^2*x2^2*y2^2 + y1^2*x2^2 - y1^2*y2^2 + x2^2*y2^2*d + 2*x2^2*y2^2 - x2^2 + y2^2 + 1) * (y2 * y2 - x2 * x2 - 1 - d * (x2 * x2 * (y2 * y2))) := by grind
 exact lin2 key e1 e2
def padd (P Q : Pt) : Pt where
 x := (P.x * Q.y + Q.x * P.y) * fi (1 + dF * (P.x * Q.x * (P.y * Q.y)))
 y := (P.y * Q.y + P.x * Q.x) * fi (1 - dF * (P.x * Q.x * (P.y * Q.y)))
 on := by
  have ha := on_plus P.on Q.on
  have hb := on_minus P.on Q.on
  refine on_sum P.on Q.on ha hb ?_ ?_
  ·have := f_inv ha
   generalize fi (1 + dF * (P.x * Q.x * (P.y * Q.y))) = c at *
   generalize 1 + dF * (P.x * Q.x * (P.y * Q.y)) = a at *
   grind
  ·have := f_inv hb
   generalize fi (1 - dF * (P.x * Q.x * (P.y * Q.y))) = c at *
   generalize 1 - dF * (P.x * Q.x * (P.y * Q.y)) = a at *
   grind
theorem padd_x (P Q : Pt) : (padd P Q).x * (1 + dF * (P.x * Q.x * (P.y * Q.y))) = P.x * Q.y + Q.x * P.y := by
 have := f_inv (on_plus P.on Q.on)
 show (P.x * Q.y + Q.x * P.y) * fi _ * _ = _
 generalize fi (1 + dF * (P.x * Q.x * (P.y * Q.y))) = c at *
 generalize 1 + dF * (P.x * Q.x * (P.y * Q.y)) = a at *
 grind
theorem padd_y (P Q : Pt) : (padd P Q).y * (1 - dF * (P.x * Q.x * (P.y * Q.y))) = P.y * Q.y + P.x * Q.x := by
 have := f_inv (on_minus P.on Q.on)
 show (P.y * Q.y + P.x * Q.x) * fi _ * _ = _
 generalize fi (1 - dF * (P.x * Q.x * (P.y * Q.y))) = c at *
 generalize 1 - dF * (P.x * Q.x * (P.y * Q.y)) = a at *
 grind
theorem padd_of {P Q R : Pt} (hx : R.x * (1 + dF * (P.x * Q.x * (P.y * Q.y))) = P.x * Q.y + Q.x * P.y) (hy : R.y * (1 - dF * (P.x * Q.x * (P.y * Q.y))) = P.y * Q.y + P.x * Q.x) : R = padd P Q :=
 Pt.ext' (f_cancel (on_plus P.on Q.on) (hx.trans (padd_x P Q).symm)) (f_cancel (on_minus P.on Q.on) (hy.trans (padd_y P Q).symm))
theorem padd_comm (P Q : Pt) : padd P Q = padd Q P := by
 refine padd_of ?_ ?_
 ·have := padd_x P Q
  have e : 1 + dF * (Q.x * P.x * (Q.y * P.y)) = 1 + dF * (P.x * Q.x * (P.y * Q.y)) := by grind
  rw [e, this]
  grind
 ·have := padd_y P Q
  have e : 1 - dF * (Q.x * P.x * (Q.y * P.y)) = 1 - dF * (P.x * Q.x * (P.y * Q.y)) := by grind
  rw [e, this]
  grind
def pzero : Pt := ⟨0, 1, by unfold On; grind⟩
def pneg (P : Pt) : Pt := ⟨-P.x, P.y, by have := P.on; unfold On at *; grind⟩
theorem padd_zero (P : Pt) : padd P pzero = P := by
 refine (padd_of ?_ ?_).symm
 ·show P.x * (1 + dF * (P.x * 0 * (P.y * 1))) = P.x * 1 + 0 * P.y
  grind
 ·show P.y * (1 - dF * (P.x * 0 * (P.y * 1))) = P.y * 1 + P.x * 0
  grind
theorem zero_padd (P : Pt) : padd pzero P = P := by rw [padd_comm, padd_zero]
theorem padd_neg (P : Pt) : padd P (pneg P) = pzero := by
 have h := P.on
 unfold On at h
 refine (padd_of ?_ ?_).symm
 ·show 0 * (1 + dF * (P.x * -P.x * (P.y * P.y))) = P.x * P.y + -P.x * P.y
  grind
 ·show 1 * (1 - dF * (P.x * -P.x * (P.y * P.y))) = P.y * P.y + P.x * -P.x
  grind
set_option maxHeartbeats 2000000 in
theorem assoc_x {x1 y1 x2 y2 x3 y3 d : Fp} (e1 : y1 * y1 - x1 * x1 - 1 - d * (x1 * x1 * (y1 * y1)) = 0) (e2 : y2 * y2 - x2 * x2 - 1 - d * (x2 * x2 * (y2 * y2)) = 0) (e3 : y3 * y3 - x3 * x3 - 1 - d * (x3 * x3 * (y3 * y3)) = 0) :
  ((x1 * y2 + x2 * y1) * (1 - d * (x1 * x2 * (y1 * y2))) * y3 + x3 * ((y1 * y2 + x1 * x2) * (1 + d * (x1 * x2 * (y1 * y2))))) * ((1 + d * (x2 * x3 * (y2 * y3))) * (1 - d * (x2 * x3 * (y2 * y3))) + d * (x1 * y1 * ((x2 * y3 + x3 * y2) * (y2 * y3 + x2 * x3))))
  = (x1 * ((y2 * y3 + x2 * x3) * (1 + d * (x2 * x3 * (y2 * y3)))) + (x2 * y3 + x3 * y2) * (1 - d * (x2 * x3 * (y2 * y3))) * y1) * ((1 + d * (x1 * x2 * (y1 * y2))) * (1 - d * (x1 * x2 * (y1 * y2))) + d * ((x1 * y2 + x2 * y1) * (y1 * y2 + x1 * x2) * (x3 * y3))) := by
 refine lin3 (c1 := (-(x1 * x2 * x2 * x2 * x2 * y2 * y2 * y2 * x3 * x3 * y3 * d * d) - x1 * x2 * x2 * x2 * x2 * y2 * x3 * x3 * y3 * d - x1 * x2 * x2 * x2 * y2 * y2 * y2 * y2 * x3 * y3 * y3 * d * d - x1 * x2 * x2 * x2 * y2 * y2 * x3 * x3 * x3 * d - x1 * x2 * x2 * x2 * y2 * y2 * x3 * d + x1 * x2 * x2 * y2 * y2 * y2 * y3 * y3 * y3 * d - x1 * x2 * x2 * y2 * y2 * y2 * y3 * d + x1 * x2 * y2 * y2 * y2 * y2 * x3 * y3 * y3 * d + y1 * x2 * x2 * x2 * x2 * y2 * y2 * y2 * x3 * y3 * y3 * d * d + y1 * x2 * x2 * x2 * x2 * y2 * x3 * y3 * y3 * d + y1 * x2 * x2 * x2 * y2 * y2 * y2 * y2 * x3 * x3 * y3 * d * d + y1 * x2 * x2 * x2 * y2 * y2 * y3 * y3 * y3 * d - y1 * x2 * x2 * x2 * y2 * y2 * y3 * d - y1 * x2 * x2 * y2 * y2 * y2 * x3 * x3 * x3 * d - y1 * x2 * x2 * y2 * y2 * y2 * x3 * d - y1 * x2 * y2 * y2 * y2 * y2 * x3 * x3 * y3 * d)) (c2 := (x1 * x1 * x1 * x2 * x2 * y2 * x3 * x3 * y3 * d + x1 * x1 * x1 * x2 * y2 * y2 * x3 * y3 * y3 * d + x1 * x1 * x1 * x2 * x3 * x3 * x3 * y3 * y3 * d + x1 * x1 * x1 * x2 * x3 * x3 * x3 - x1 * x1 * x1 * x2 * x3 * y3 * y3 + x1 * x1 * x1 * x2 * x3 + x1 * x1 * x1 * y2 * x3 * x3 * y3 * y3 * y3 * d + x1 * x1 * x1 * y2 * x3 * x3 * y3 - x1 * x1 * x1 * y2 * y3 * y3 * y3 + x1 * x1 * x1 * y2 * y3 + x1 * x1 * y1 * x2 * x2 * y2 * x3 * x3 * x3 * y3 * y3 * d * d - x1 * x1 * y1 * x2 * x2 * y2 * x3 * y3 * y3 * d - x1 * x1 * y1 * x2 * y2 * y2 * x3 * x3 * y3 * y3 * y3 * d * d - x1 * x1 * y1 * x2 * y2 * y2 * x3 * x3 * y3 * d + x1 * x1 * y1 * x2 * x3 * x3 * y3 * y3 * y3 * d + x1 * x1 * y1 * x2 * x3 * x3 * y3 - x1 * x1 * y1 * x2 * y3 * y3 * y3 + x1 * x1 * y1 * x2 * y3 + x1 * x1 * y1 * y2 * x3 * x3 * x3 * y3 * y3 * d + x1 * x1 * y1 * y2 * x3 * x3 * x3 - x1 * x1 * y1 * y2 * x3 * y3 * y3 + x1 * x1 * y1 * y2 * x3 - x1 * y1 * y1 * x2 * x2 * y2 * x3 * x3 * y3 * y3 * y3 * d * d - x1 * y1 * y1 * x2 * x2 * y2 * x3 * x3 * y3 * d + x1 * y1 * y1 * x2 * y2 * y2 * x3 * x3 * x3 * y3 * y3 * d * d - x1 * y1 * y1 * x2 * y2 * y2 * x3 * y3 * y3 * d - x1 * y1 * y1 * x2 * x3 * x3 * x3 * y3 * y3 * d - x1 * y1 * y1 * x2 * x3 * x3 * x3 + x1 * y1 * y1 * x2 * x3 * y3 * y3 - x1 * y1 * y1 * x2 * x3 - x1 * y1 * y1 * y2 * x3 * x3 * y3 * y3 * y3 * d - x1 * y1 * y1 * y2 * x3 * x3 * y3 + x1 * y1 * y1 * y2 * y3 * y3 * y3 - x1 * y1 * y1 * y2 * y3 + x1 * x2 * x2 * y2 * x3 * x3 * y3 * d + x1 * x2 * y2 * y2 * x3 * y3 * y3 * d + x1 * x2 * x3 * x3 * x3 * y3 * y3 * d + x1 * x2 * x3 * x3 * x3 - x1 * x2 * x3 * y3 * y3 + x1 * x2 * x3 + x1 * y2 * x3 * x3 * y3 * y3 * y3 * d + x1 * y2 * x3 * x3 * y3 - x1 * y2 * y3 * y3 * y3 + x1 * y2 * y3 + y1 * y1 * y1 * x2 * x2 * y2 * x3 * y3 * y3 * d + y1 * y1 * y1 * x2 * y2 * y2 * x3 * x3 * y3 * d - y1 * y1 * y1 * x2 * x3 * x3 * y3 * y3 * y3 * d - y1 * y1 * y1 * x2 * x3 * x3 * y3 + y1 * y1 * y1 * x2 * y3 * y3 * y3 - y1 * y1 * y1 * x2 * y3 - y1 * y1 * y1 * y2 * x3 * x3 * x3 * y3 * y3 * d - y1 * y1 * y1 * y2 * x3 * x3 * x3 + y1 * y1 * y1 * y2 * x3 * y3 * y3 - y1 * y1 * y1 * y2 * x3 - y1 * x2 * x2 * y2 * x3 * y3 * y3 * d - y1 * x2 * y2 * y2 * x3 * x3 * y3 * d + y1 * x2 * x3 * x3 * y3 * y3 * y3 * d + y1 * x2 * x3 * x3 * y3 - y1 * x2 * y3 * y3 * y3 + y1 * x2 * y3 + y1 * y2 * x3 * x3 * x3 * y3 * y3 * d + y1 * y2 * x3 * x3 * x3 - y1 * y2 * x3 * y3 * y3 + y1 * y2 * x3)) (c3 := (-(x1 * x1 * x1 * x2 * x2 * x2 * x3) - x1 * x1 * x1 * x2 * x2 * y2 * y3 + x1 * x1 * x1 * x2 * y2 * y2 * x3 - x1 * x1 * x1 * x2 * x3 + x1 * x1 * x1 * y2 * y2 * y2 * y3 - x1 * x1 * x1 * y2 * y3 - x1 * x1 * y1 * x2 * x2 * x2 * y3 - x1 * x1 * y1 * x2 * x2 * y2 * x3 * d - x1 * x1 * y1 * x2 * x2 * y2 * x3 + x1 * x1 * y1 * x2 * y2 * y2 * y3 * d + x1 * x1 * y1 * x2 * y2 * y2 * y3 - x1 * x1 * y1 * x2 * y3 + x1 * x1 * y1 * y2 * y2 * y2 * x3 - x1 * x1 * y1 * y2 * x3 + x1 * y1 * y1 * x2 * x2 * x2 * x3 + x1 * y1 * y1 * x2 * x2 * y2 * y3 * d + x1 * y1 * y1 * x2 * x2 * y2 * y3 - x1 * y1 * y1 * x2 * y2 * y2 * x3 * d - x1 * y1 * y1 * x2 * y2 * y2 * x3 + x1 * y1 * y1 * x2 * x3 - x1 * y1 * y1 * y2 * y2 * y2 * y3 + x1 * y1 * y1 * y2 * y3 - x1 * x2 * x2 * x2 * x3 - x1 * x2 * x2 * y2 * y3 + x1 * x2 * y2 * y2 * x3 - x1 * x2 * x3 + x1 * y2 * y2 * y2 * y3 - x1 * y2 * y3 + y1 * y1 * y1 * x2 * x2 * x2 * y3 + y1 * y1 * y1 * x2 * x2 * y2 * x3 - y1 * y1 * y1 * x2 * y2 * y2 * y3 + y1 * y1 * y1 * x2 * y3 - y1 * y1 * y1 * y2 * y2 * y2 * x3 + y1 * y1 * y1 * y2 * x3 - y1 * x2 * x2 * x2 * y3 - y1 * x2 * x2 * y2 * x3 + y1 * x2 * y2 * y2 * y3 - y1 * x2 * y3 + y1 * y2 * y2 * y2 * x3 - y1 * y2 * x3)) ?_ e1 e2 e3
 clear e1 e2 e3
 grind
set_option maxHeartbeats 2000000 in
theorem assoc_y {x1 y1 x2 y2 x3 y3 d : Fp} (e1 : y1 * y1 - x1 * x1 - 1 - d * (x1 * x1 * (y1 * y1)) = 0) (e2 : y2 * y2 - x2 * x2 - 1 - d * (x2 * x2 * (y2 * y2)) = 0) (e3 : y3 * y3 - x3 * x3 - 1 - d * (x3 * x3 * (y3 * y3)) = 0) :
  ((y1 * y2 + x1 * x2) * (1 + d * (x1 * x2 * (y1 * y2))) * y3 + (x1 * y2 + x2 * y1) * (1 - d * (x1 * x2 * (y1 * y2))) * x3) * ((1 + d * (x2 * x3 * (y2 * y3))) * (1 - d * (x2 * x3 * (y2 * y3))) - d * (x1 * y1 * ((x2 * y3 + x3 * y2) * (y2 * y3 + x2 * x3))))
  = (y1 * ((y2 * y3 + x2 * x3) * (1 + d * (x2 * x3 * (y2 * y3)))) + x1 * ((x2 * y3 + x3 * y2) * (1 - d * (x2 * x3 * (y2 * y3))))) * ((1 + d * (x1 * x2 * (y1 * y2))) * (1 - d * (x1 * x2 * (y1 * y2))) - d * ((x1 * y2 + x2 * y1) * (y1 * y2 + x1 * x2) * (x3 * y3))) := by
 refine lin3 (c1 := (x1 * x2 * x2 * x2 * x2 * y2 * y2 * y2 * x3 * y3 * y3 * d * d + x1 * x2 * x2 * x2 * x2 * y2 * x3 * y3 * y3 * d + x1 * x2 * x2 * x2 * y2 * y2 * y2 * y2 * x3 * x3 * y3 * d * d + x1 * x2 * x2 * x2 * y2 * y2 * y3 * y3 * y3 * d - x1 * x2 * x2 * x2 * y2 * y2 * y3 * d - x1 * x2 * x2 * y2 * y2 * y2 * x3 * x3 * x3 * d - x1 * x2 * x2 * y2 * y2 * y2 * x3 * d - x1 * x2 * y2 * y2 * y2 * y2 * x3 * x3 * y3 * d - y1 * x2 * x2 * x2 * x2 * y2 * y2 * y2 * x3 * x3 * y3 * d * d - y1 * x2 * x2 * x2 * x2 * y2 * x3 * x3 * y3 * d - y1 * x2 * x2 * x2 * y2 * y2 * y2 * y2 * x3 * y3 * y3 * d * d - y1 * x2 * x2 * x2 * y2 * y2 * x3 * x3 * x3 * d - y1 * x2 * x2 * x2 * y2 * y2 * x3 * d + y1 * x2 * x2 * y2 * y2 * y2 * y3 * y3 * y3 * d - y1 * x2 * x2 * y2 * y2 * y2 * y3 * d + y1 * x2 * y2 * y2 * y2 * y2 * x3 * y3 * y3 * d)) (c2 := (-(x1 * x1 * x1 * x2 * x2 * y2 * x3 * y3 * y3 * d) - x1 * x1 * x1 * x2 * y2 * y2 * x3 * x3 * y3 * d + x1 * x1 * x1 * x2 * x3 * x3 * y3 * y3 * y3 * d + x1 * x1 * x1 * x2 * x3 * x3 * y3 - x1 * x1 * x1 * x2 * y3 * y3 * y3 + x1 * x1 * x1 * x2 * y3 + x1 * x1 * x1 * y2 * x3 * x3 * x3 * y3 * y3 * d + x1 * x1 * x1 * y2 * x3 * x3 * x3 - x1 * x1 * x1 * y2 * x3 * y3 * y3 + x1 * x1 * x1 * y2 * x3 + x1 * x1 * y1 * x2 * x2 * y2 * x3 * x3 * y3 * y3 * y3 * d * d + x1 * x1 * y1 * x2 * x2 * y2 * x3 * x3 * y3 * d - x1 * x1 * y1 * x2 * y2 * y2 * x3 * x3 * x3 * y3 * y3 * d * d + x1 * x1 * y1 * x2 * y2 * y2 * x3 * y3 * y3 * d + x1 * x1 * y1 * x2 * x3 * x3 * x3 * y3 * y3 * d + x1 * x1 * y1 * x2 * x3 * x3 * x3 - x1 * x1 * y1 * x2 * x3 * y3 * y3 + x1 * x1 * y1 * x2 * x3 + x1 * x1 * y1 * y2 * x3 * x3 * y3 * y3 * y3 * d + x1 * x1 * y1 * y2 * x3 * x3 * y3 - x1 * x1 * y1 * y2 * y3 * y3 * y3 + x1 * x1 * y1 * y2 * y3 - x1 * y1 * y1 * x2 * x2 * y2 * x3 * x3 * x3 * y3 * y3 * d * d + x1 * y1 * y1 * x2 * x2 * y2 * x3 * y3 * y3 * d + x1 * y1 * y1 * x2 * y2 * y2 * x3 * x3 * y3 * y3 * y3 * d * d + x1 * y1 * y1 * x2 * y2 * y2 * x3 * x3 * y3 * d - x1 * y1 * y1 * x2 * x3 * x3 * y3 * y3 * y3 * d - x1 * y1 * y1 * x2 * x3 * x3 * y3 + x1 * y1 * y1 * x2 * y3 * y3 * y3 - x1 * y1 * y1 * x2 * y3 - x1 * y1 * y1 * y2 * x3 * x3 * x3 * y3 * y3 * d - x1 * y1 * y1 * y2 * x3 * x3 * x3 + x1 * y1 * y1 * y2 * x3 * y3 * y3 - x1 * y1 * y1 * y2 * x3 - x1 * x2 * x2 * y2 * x3 * y3 * y3 * d - x1 * x2 * y2 * y2 * x3 * x3 * y3 * d + x1 * x2 * x3 * x3 * y3 * y3 * y3 * d + x1 * x2 * x3 * x3 * y3 - x1 * x2 * y3 * y3 * y3 + x1 * x2 * y3 + x1 * y2 * x3 * x3 * x3 * y3 * y3 * d + x1 * y2 * x3 * x3 * x3 - x1 * y2 * x3 * y3 * y3 + x1 * y2 * x3 - y1 * y1 * y1 * x2 * x2 * y2 * x3 * x3 * y3 * d - y1 * y1 * y1 * x2 * y2 * y2 * x3 * y3 * y3 * d - y1 * y1 * y1 * x2 * x3 * x3 * x3 * y3 * y3 * d - y1 * y1 * y1 * x2 * x3 * x3 * x3 + y1 * y1 * y1 * x2 * x3 * y3 * y3 - y1 * y1 * y1 * x2 * x3 - y1 * y1 * y1 * y2 * x3 * x3 * y3 * y3 * y3 * d - y1 * y1 * y1 * y2 * x3 * x3 * y3 + y1 * y1 * y1 * y2 * y3 * y3 * y3 - y1 * y1 * y1 * y2 * y3 + y1 * x2 * x2 * y2 * x3 * x3 * y3 * d + y1 * x2 * y2 * y2 * x3 * y3 * y3 * d + y1 * x2 * x3 * x3 * x3 * y3 * y3 * d + y1 * x2 * x3 * x3 * x3 - y1 * x2 * x3 * y3 * y3 + y1 * x2 * x3 + y1 * y2 * x3 * x3 * y3 * y3 * y3 * d + y1 * y2 * x3 * x3 * y3 - y1 * y2 * y3 * y3 * y3 + y1 * y2 * y3)) (c3 := (-(x1 * x1 * x1 * x2 * x2 * x2 * y3) - x1 * x1 * x1 * x2 * x2 * y2 * x3 + x1 * x1 * x1 * x2 * y2 * y2 * y3 - x1 * x1 * x1 * x2 * y3 + x1 * x1 * x1 * y2 * y2 * y2 * x3 - x1 * x1 * x1 * y2 * x3 - x1 * x1 * y1 * x2 * x2 * x2 * x3 - x1 * x1 * y1 * x2 * x2 * y2 * y3 * d - x1 * x1 * y1 * x2 * x2 * y2 * y3 + x1 * x1 * y1 * x2 * y2 * y2 * x3 * d + x1 * x1 * y1 * x2 * y2 * y2 * x3 - x1 * x1 * y1 * x2 * x3 + x1 * x1 * y1 * y2 * y2 * y2 * y3 - x1 * x1 * y1 * y2 * y3 + x1 * y1 * y1 * x2 * x2 * x2 * y3 + x1 * y1 * y1 * x2 * x2 * y2 * x3 * d + x1 * y1 * y1 * x2 * x2 * y2 * x3 - x1 * y1 * y1 * x2 * y2 * y2 * y3 * d - x1 * y1 * y1 * x2 * y2 * y2 * y3 + x1 * y1 * y1 * x2 * y3 - x1 * y1 * y1 * y2 * y2 * y2 * x3 + x1 * y1 * y1 * y2 * x3 - x1 * x2 * x2 * x2 * y3 - x1 * x2 * x2 * y2 * x3 + x1 * x2 * y2 * y2 * y3 - x1 * x2 * y3 + x1 * y2 * y2 * y2 * x3 - x1 * y2 * x3 + y1 * y1 * y1 * x2 * x2 * x2 * x3 + y1 * y1 * y1 * x2 * x2 * y2 * y3 - y1 * y1 * y1 * x2 * y2 * y2 * x3 + y1 * y1 * y1 * x2 * x3 - y1 * y1 * y1 * y2 * y2 * y2 * y3 + y1 * y1 * y1 * y2 * y3 - y1 * x2 * x2 * x2 * x3 - y1 * x2 * x2 * y2 * y3 + y1 * x2 * y2 * y2 * x3 - y1 * x2 * x3 + y1 * y2 * y2 * y2 * y3 - y1 * y2 * y3)) ?_ e1 e2 e3
 clear e1 e2 e3
 grind
theorem On.zero {x y : Fp} (h : On x y) : y * y - x * x - 1 - dF * (x * x * (y * y)) = 0 := by
 unfold On at h
 rw [h]
 grind
theorem lift_x {d A B n m x' y' u v x : Fp} (hx : x' * A = n) (hy : y' * B = m) (h : x * (1 + d * (x' * u * (y' * v))) = x' * v + u * y') : x * (A * B + d * (n * m * (u * v))) = n * B * v + u * (m * A) := by
 subst hx hy
 have e : x * (A * B + d * (x' * A * (y' * B) * (u * v))) = x * (1 + d * (x' * u * (y' * v))) * (A * B) := by grind
 rw [e, h]
 grind
theorem lift_y {d A B n m x' y' u v y : Fp} (hx : x' * A = n) (hy : y' * B = m) (h : y * (1 - d * (x' * u * (y' * v))) = y' * v + x' * u) : y * (A * B - d * (n * m * (u * v))) = m * A * v + n * B * u := by
 subst hx hy
 have e : y * (A * B - d * (x' * A * (y' * B) * (u * v))) = y * (1 - d * (x' * u * (y' * v))) * (A * B) := by grind
 rw [e, h]
 grind
theorem lift_ne {d A B n m x' y' u v : Fp} (hx : x' * A = n) (hy : y' * B = m) (hA : A ≠ 0) (hB : B ≠ 0) (h : 1 + d * (x' * u * (y' * v)) ≠ 0) : A * B + d * (n * m * (u * v)) ≠ 0 := by
 subst hx hy
 have e : A * B + d * (x' * A * (y' * B) * (u * v)) = (1 + d * (x' * u * (y' * v))) * (A * B) := by grind
 rw [e]
 exact f_mul_ne h (f_mul_ne hA hB)
theorem lift_ne' {d A B n m x' y' u v : Fp} (hx : x' * A = n) (hy : y' * B = m) (hA : A ≠ 0) (hB : B ≠ 0) (h : 1 - d * (x' * u * (y' * v)) ≠ 0) : A * B - d * (n * m * (u * v)) ≠ 0 := by
 subst hx hy
 have e : A * B - d * (x' * A * (y' * B) * (u * v)) = (1 - d * (x' * u * (y' * v))) * (A * B) := by grind
 rw [e]
 exact f_mul_ne h (f_mul_ne hA hB)
theorem frac_eq {x z D E N M : Fp} (hD : D ≠ 0) (hE : E ≠ 0) (hx : x * D = N) (hz : z * E = M) (h : N * E = M * D) : x = z := by
 apply f_cancel (f_mul_ne hD hE)
 subst hx hz
 grind
theorem assoc_core {x1 y1 x2 y2 x3 y3 d a b c e xl yl xr yr : Fp}
  (e1 : y1 * y1 - x1 * x1 - 1 - d * (x1 * x1 * (y1 * y1)) = 0) (e2 : y2 * y2 - x2 * x2 - 1 - d * (x2 * x2 * (y2 * y2)) = 0) (e3 : y3 * y3 - x3 * x3 - 1 - d * (x3 * x3 * (y3 * y3)) = 0)
  (ha : a * (1 + d * (x1 * x2 * (y1 * y2))) = x1 * y2 + x2 * y1) (hb : b * (1 - d * (x1 * x2 * (y1 * y2))) = y1 * y2 + x1 * x2)
  (hc : c * (1 + d * (x2 * x3 * (y2 * y3))) = x2 * y3 + x3 * y2) (he : e * (1 - d * (x2 * x3 * (y2 * y3))) = y2 * y3 + x2 * x3)
  (n1 : 1 + d * (x1 * x2 * (y1 * y2)) ≠ 0) (n2 : 1 - d * (x1 * x2 * (y1 * y2)) ≠ 0) (n3 : 1 + d * (x2 * x3 * (y2 * y3)) ≠ 0) (n4 : 1 - d * (x2 * x3 * (y2 * y3)) ≠ 0)
  (n5 : 1 + d * (a * x3 * (b * y3)) ≠ 0) (n6 : 1 - d * (a * x3 * (b * y3)) ≠ 0) (n7 : 1 + d * (c * x1 * (e * y1)) ≠ 0) (n8 : 1 - d * (c * x1 * (e * y1)) ≠ 0)
  (hxl : xl * (1 + d * (a * x3 * (b * y3))) = a * y3 + x3 * b) (hyl : yl * (1 - d * (a * x3 * (b * y3))) = b * y3 + a * x3)
  (hxr : xr * (1 + d * (c * x1 * (e * y1))) = c * y1 + x1 * e) (hyr : yr * (1 - d * (c * x1 * (e * y1))) = e * y1 + c * x1) : xl = xr ∧ yl = yr := by
 have lx := lift_x ha hb hxl
 have ly := lift_y ha hb hyl
 have rx := lift_x hc he hxr
 have ry := lift_y hc he hyr
 have nl := lift_ne ha hb n1 n2 n5
 have nl' := lift_ne' ha hb n1 n2 n6
 have nr := lift_ne hc he n3 n4 n7
 have nr' := lift_ne' hc he n3 n4 n8
 have ax := assoc_x e1 e2 e3
 have ay := assoc_y e1 e2 e3
 clear ha hb hc he hxl hyl hxr hyr n1 n2 n3 n4 n5 n6 n7 n8 e1 e2 e3
 refine ⟨?_, ?_⟩
 ·refine frac_eq nl nr lx rx ?_
  clear nl nl' nr nr' lx rx ly ry ay
  have t1 : (1 + d * (x2 * x3 * (y2 * y3))) * (1 - d * (x2 * x3 * (y2 * y3))) + d * ((x2 * y3 + x3 * y2) * (y2 * y3 + x2 * x3) * (x1 * y1)) = (1 + d * (x2 * x3 * (y2 * y3))) * (1 - d * (x2 * x3 * (y2 * y3))) + d * (x1 * y1 * ((x2 * y3 + x3 * y2) * (y2 * y3 + x2 * x3))) := by
   rw [Fin.mul_comm _ (x1 * y1)]
  have t2 : (x2 * y3 + x3 * y2) * (1 - d * (x2 * x3 * (y2 * y3))) * y1 + x1 * ((y2 * y3 + x2 * x3) * (1 + d * (x2 * x3 * (y2 * y3)))) = x1 * ((y2 * y3 + x2 * x3) * (1 + d * (x2 * x3 * (y2 * y3)))) + (x2 * y3 + x3 * y2) * (1 - d * (x2 * x3 * (y2 * y3))) * y1 := by grind
  rw [t1, t2]
  exact ax
 ·refine frac_eq nl' nr' ly ry ?_
  clear nl nl' nr nr' lx rx ly ry ax
  have t1 : (1 + d * (x2 * x3 * (y2 * y3))) * (1 - d * (x2 * x3 * (y2 * y3))) - d * ((x2 * y3 + x3 * y2) * (y2 * y3 + x2 * x3) * (x1 * y1)) = (1 + d * (x2 * x3 * (y2 * y3))) * (1 - d * (x2 * x3 * (y2 * y3))) - d * (x1 * y1 * ((x2 * y3 + x3 * y2) * (y2 * y3 + x2 * x3))) := by
   rw [Fin.mul_comm _ (x1 * y1)]
  have t2 : (y2 * y3 + x2 * x3) * (1 + d * (x2 * x3 * (y2 * y3))) * y1 + (x2 * y3 + x3 * y2) * (1 - d * (x2 * x3 * (y2 * y3))) * x1 = y1 * ((y2 * y3 + x2 * x3) * (1 + d * (x2 * x3 * (y2 * y3)))) + x1 * ((x2 * y3 + x3 * y2) * (1 - d * (x2 * x3 * (y2 * y3)))) := by
   rw [Fin.mul_comm _ y1, Fin.mul_comm _ x1]
  rw [t1, t2]
  exact ay
theorem padd_assoc' (P Q R : Pt) : (padd (padd P Q) R).x = (padd (padd Q R) P).x ∧ (padd (padd P Q) R).y = (padd (padd Q R) P).y :=
 assoc_core P.on.zero Q.on.zero R.on.zero (padd_x P Q) (padd_y P Q) (padd_x Q R) (padd_y Q R) (on_plus P.on Q.on) (on_minus P.on Q.on) (on_plus Q.on R.on) (on_minus Q.on R.on)
  (on_plus (padd P Q).on R.on) (on_minus (padd P Q).on R.on) (on_plus (padd Q R).on P.on) (on_minus (padd Q R).on P.on)
  (padd_x (padd P Q) R) (padd_y (padd P Q) R) (padd_x (padd Q R) P) (padd_y (padd Q R) P)
theorem padd_assoc (P Q R : Pt) : padd (padd P Q) R = padd P (padd Q R) :=
 Eq.trans (b := padd (padd Q R) P) (Pt.ext' (padd_assoc' P Q R).1 (padd_assoc' P Q R).2) (padd_comm (padd Q R) P)
def pmul : Nat → Pt → Pt
 | 0, _ => pzero
 | n + 1, P => padd (pmul n P) P
theorem pmul_zero (P : Pt) : pmul 0 P = pzero := rfl
theorem pmul_succ (n : Nat) (P : Pt) : pmul (n + 1) P = padd (pmul n P) P := rfl
theorem pmul_one (P : Pt) : pmul 1 P = P := zero_padd P
theorem pmul_add (m : Nat) (P : Pt) : ∀ n, pmul (m + n) P = padd (pmul m P) (pmul n P)
 | 0 => by rw [Nat.add_zero, pmul_zero, padd_zero]
 | n + 1 => by
  rw [← Nat.add_assoc, pmul_succ, pmul_succ, pmul_add m P n, padd_assoc]
theorem pmul_two (n : Nat) (P : Pt) : pmul (2 * n) P = padd (pmul n P) (pmul n P) := by
 rw [Nat.two_mul, pmul_add]
theorem pmul_mul (m : Nat) (P : Pt) : ∀ n, pmul (n * m) P = pmul n (pmul m P)
 | 0 => by rw [Nat.zero_mul]; rfl
 | n + 1 => by
  rw [Nat.add_mul, Nat.one_mul, pmul_add, pmul_mul m P n, pmul_succ]
theorem pmul_comm (m n : Nat) (P : Pt) : pmul m (pmul n P) = pmul n (pmul m P) := by
 rw [← pmul_mul, ← pmul_mul, Nat.mul_comm]
theorem pmul_pzero : ∀ n, pmul n pzero = pzero
 | 0 => rfl
 | n + 1 => by rw [pmul_succ, pmul_pzero n, padd_zero]
theorem padd_left_comm (P Q R : Pt) : padd P (padd Q R) = padd Q (padd P R) := by
 rw [← padd_assoc, padd_comm P Q, padd_assoc]
theorem pmul_padd (P Q : Pt) : ∀ n, pmul n (padd P Q) = padd (pmul n P) (pmul n Q)
 | 0 => by rw [pmul_zero, pmul_zero, pmul_zero, padd_zero]
 | n + 1 => by
  rw [pmul_succ, pmul_succ, pmul_succ, pmul_padd P Q n, padd_assoc, padd_assoc, padd_left_comm (pmul n Q)]
theorem padd_cancel {P Q R : Pt} (h : padd P R = padd Q R) : P = Q := by
 have := congrArg (fun T => padd T (pneg R)) h
 simp only [padd_assoc, padd_neg, padd_zero] at this
 exact this
theorem pneg_of {P Q : Pt} (h : padd P Q = pzero) : Q = pneg P := by
 apply padd_cancel (R := P)
 rw [padd_comm Q P, h, padd_comm (pneg P), padd_neg]
theorem pmul_mod {q : Nat} {P : Pt} (h : pmul q P = pzero) (n : Nat) : pmul (n % q) P = pmul n P := by
 have e : n = n / q * q + n % q := (Nat.div_add_mod' n q).symm
 conv => rhs; rw [e, pmul_add, pmul_mul, h, pmul_pzero, zero_padd]
theorem f_self (a : Fp) : a - a = 0 := by grind
def bX : Int := 15112221349535400772501151409588531511454012693041857206046113283949847762202
def bY : Int := 46316835694926478169428394003475163141307993866256225615783033603165251855960
theorem b_on : On (fp bX) (fp bY) := by
 unfold On dF
 rw [← fp_mul, ← fp_mul, ← fp_sub, ← fp_mul, ← fp_mul, ← fp_one, ← fp_add, fp_eq]
 have : pP ∣ bY * bY - bX * bX - (1 + dN * (bX * bX * (bY * bY))) := by decide +kernel
 exact this
def bP : Pt := ⟨fp bX, fp bY, b_on⟩
def nbF (f : Fp) : List UInt8 := bytesN 32 f.val
theorem nbF_length (f : Fp) : (nbF f).length = 32 := bytesN_length _ _
def clampB (l : List UInt8) : List UInt8 := (l.set 0 (l.getD 0 0 &&& 248)).set 31 (((l.set 0 (l.getD 0 0 &&& 248)).getD 31 0 &&& 127) ||| 64)
def maskB (l : List UInt8) : List UInt8 := l.set 31 (l.getD 31 0 &&& 127)
theorem clampB_length {l : List UInt8} (h : l.length = 32) : (clampB l).length = 32 := by simp [clampB, h]
theorem maskB_length {l : List UInt8} (h : l.length = 32) : (maskB l).length = 32 := by simp [maskB, h]
def PX (P : Pt) (X Y Z T : Fp) : Prop := Z ≠ 0 ∧ X = P.x * Z ∧ Y = P.y * Z ∧ T = P.x * P.y * Z
theorem ext_of {P : Pt} : PX P P.x P.y 1 (P.x * P.y) := ⟨f_one_ne, (Fin.mul_one _).symm, (Fin.mul_one _).symm, (Fin.mul_one _).symm⟩
theorem ext_zero : PX pzero 0 1 1 0 := by
 refine ⟨f_one_ne, ?_, ?_, ?_⟩
 ·exact (Fin.zero_mul _).symm
 ·exact (Fin.mul_one _).symm
 ·show (0 : Fp) = 0 * 1 * 1
  rw [Fin.zero_mul, Fin.zero_mul]
theorem sum_core {x1 y1 z1 x2 y2 z2 d x3 y3 t : Fp} (hx : x3 * (1 + d * (x1 * x2 * (y1 * y2))) = x1 * y2 + x2 * y1) (hy : y3 * (1 - d * (x1 * x2 * (y1 * y2))) = y1 * y2 + x1 * x2) :
  let a := (y1 * z1 - x1 * z1) * (y2 * z2 - x2 * z2)
  let b := (y1 * z1 + x1 * z1) * (y2 * z2 + x2 * z2)
  let c := x1 * y1 * z1 * (x2 * y2 * z2) * (d + d)
  let e := z1 * z2 + z1 * z2
  (b - a) = x3 * (e + c) ∧ (b + a) = y3 * (e - c) ∧ (e - c) = 2 * (z1 * z2) * (1 - d * (x1 * x2 * (y1 * y2))) ∧ (e + c) = 2 * (z1 * z2) * (1 + d * (x1 * x2 * (y1 * y2))) := by
 intro a b c e
 have ep : e + c = 2 * (z1 * z2) * (1 + d * (x1 * x2 * (y1 * y2))) := by
  show z1 * z2 + z1 * z2 + x1 * y1 * z1 * (x2 * y2 * z2) * (d + d) = _
  clear hx hy
  grind
 have em : e - c = 2 * (z1 * z2) * (1 - d * (x1 * x2 * (y1 * y2))) := by
  show z1 * z2 + z1 * z2 - x1 * y1 * z1 * (x2 * y2 * z2) * (d + d) = _
  clear hx hy ep
  grind
 refine ⟨?_, ?_, em, ep⟩
 ·rw [ep]
  have r : x3 * (2 * (z1 * z2) * (1 + d * (x1 * x2 * (y1 * y2)))) = 2 * (z1 * z2) * (x3 * (1 + d * (x1 * x2 * (y1 * y2)))) := by clear hx hy ep em; grind
  rw [r, hx]
  show (y1 * z1 + x1 * z1) * (y2 * z2 + x2 * z2) - (y1 * z1 - x1 * z1) * (y2 * z2 - x2 * z2) = _
  clear hx hy ep em r
  grind
 ·rw [em]
  have r : y3 * (2 * (z1 * z2) * (1 - d * (x1 * x2 * (y1 * y2)))) = 2 * (z1 * z2) * (y3 * (1 - d * (x1 * x2 * (y1 * y2)))) := by clear hx hy ep em; grind
  rw [r, hy]
  show (y1 * z1 + x1 * z1) * (y2 * z2 + x2 * z2) + (y1 * z1 - x1 * z1) * (y2 * z2 - x2 * z2) = _
  clear hx hy ep em r
  grind
theorem ext_sum {P Q : Pt} {X1 Y1 Z1 T1 X2 Y2 Z2 T2 : Fp} (h1 : PX P X1 Y1 Z1 T1) (h2 : PX Q X2 Y2 Z2 T2) :
  let a := (Y1 - X1) * (Y2 - X2)
  let b := (Y1 + X1) * (Y2 + X2)
  let c := T1 * T2 * (dF + dF)
  let e := Z1 * Z2 + Z1 * Z2
  PX (padd P Q) ((b - a) * (e - c)) ((b + a) * (e + c)) ((e - c) * (e + c)) ((b - a) * (b + a)) := by
 obtain ⟨hz1, hx1, hy1, ht1⟩ := h1
 obtain ⟨hz2, hx2, hy2, ht2⟩ := h2
 subst hx1 hy1 ht1 hx2 hy2 ht2
 intro a b c e
 obtain ⟨k1, k2, k3, k4⟩ := sum_core (z1 := Z1) (z2 := Z2) (t := 0) (padd_x P Q) (padd_y P Q)
 have n1 : e - c ≠ 0 := by
  show Z1 * Z2 + Z1 * Z2 - P.x * P.y * Z1 * (Q.x * Q.y * Z2) * (dF + dF) ≠ 0
  rw [k3]
  exact f_mul_ne (f_mul_ne f_two_ne (f_mul_ne hz1 hz2)) (on_minus P.on Q.on)
 have n2 : e + c ≠ 0 := by
  show Z1 * Z2 + Z1 * Z2 + P.x * P.y * Z1 * (Q.x * Q.y * Z2) * (dF + dF) ≠ 0
  rw [k4]
  exact f_mul_ne (f_mul_ne f_two_ne (f_mul_ne hz1 hz2)) (on_plus P.on Q.on)
 have m1 : b - a = (padd P Q).x * (e + c) := k1
 have m2 : b + a = (padd P Q).y * (e - c) := k2
 clear k1 k2 k3 k4
 unfold PX
 generalize (padd P Q).x = x at *
 generalize (padd P Q).y = y at *
 generalize b - a = h at *
 generalize b + a = i at *
 generalize e - c = f at *
 generalize e + c = g at *
 clear a b c e
 subst m1 m2
 refine ⟨f_mul_ne n1 n2, ?_, ?_, ?_⟩
 ·clear n1 n2 hz1 hz2; grind
 ·clear n1 n2 hz1 hz2; grind
 ·clear n1 n2 hz1 hz2; grind
theorem ext_same {P Q : Pt} {X1 Y1 Z1 T1 X2 Y2 Z2 T2 : Fp} (h1 : PX P X1 Y1 Z1 T1) (h2 : PX Q X2 Y2 Z2 T2) (hx : X1 * Z2 = X2 * Z1) (hy : Y1 * Z2 = Y2 * Z1) : P = Q := by
 obtain ⟨hz1, hx1, hy1, -⟩ := h1
 obtain ⟨hz2, hx2, hy2, -⟩ := h2
 subst hx1 hy1 hx2 hy2
 refine Pt.ext' ?_ ?_
 ·apply f_cancel (f_mul_ne hz1 hz2)
  generalize P.x = a at *; generalize Q.x = b at *
  have l : a * (Z1 * Z2) = a * Z1 * Z2 := by clear hx hy hz1 hz2; grind
  have r : b * (Z1 * Z2) = b * Z2 * Z1 := by clear hx hy hz1 hz2 l; grind
  rw [l, r, hx]
 ·apply f_cancel (f_mul_ne hz1 hz2)
  generalize P.y = a at *; generalize Q.y = b at *
  have l : a * (Z1 * Z2) = a * Z1 * Z2 := by clear hx hy hz1 hz2; grind
  have r : b * (Z1 * Z2) = b * Z2 * Z1 := by clear hx hy hz1 hz2 l; grind
  rw [l, r, hy]
structure ES where
 x : Fp
 y : Fp
 z : Fp
 t : Fp
def ES.is (s : ES) (P : Pt) : Prop := PX P s.x s.y s.z s.t
def ES.sum (p q : ES) : ES :=
 let a := (p.y - p.x) * (q.y - q.x)
 let b := (p.y + p.x) * (q.y + q.x)
 let c := p.t * q.t * (dF + dF)
 let e := p.z * q.z + p.z * q.z
 ⟨(b - a) * (e - c), (b + a) * (e + c), (e - c) * (e + c), (b - a) * (b + a)⟩
theorem ES.is.sum {p q : ES} {P Q : Pt} (hp : p.is P) (hq : q.is Q) : (p.sum q).is (padd P Q) := ext_sum hp hq
def esZero : ES := ⟨0, 1, 1, 0⟩
theorem esZero_is : esZero.is pzero := ext_zero
def Pt.es (P : Pt) : ES := ⟨P.x, P.y, 1, P.x * P.y⟩
theorem Pt.es_is (P : Pt) : P.es.is P := ext_of
def erun (m : Nat) (p : ES) (n : Nat) : Nat → ES
 | 0 => esZero
 | t + 1 =>
  let r := (erun m p n t).sum (erun m p n t)
  if n.testBit (m - 1 - t) then r.sum p else r
theorem erun_is {p : ES} {P : Pt} (hp : p.is P) {m n : Nat} (hn : n < 2 ^ m) : ∀ t, t ≤ m → (erun m p n t).is (pmul (n >>> (m - t)) P)
 | 0, _ => by
  have e : n >>> (m - 0) = 0 := by
   rw [Nat.sub_zero, Nat.shiftRight_eq_div_pow]
   exact Nat.div_eq_of_lt hn
  rw [e]
  exact esZero_is
 | t + 1, h => by
  have ih := erun_is hp hn t (by omega)
  have e1 : m - (t + 1) = m - 1 - t := by omega
  have e2 : m - t = m - 1 - t + 1 := by omega
  have e3 : n >>> (m - 1 - t) = 2 * (n >>> (m - t)) + (n.testBit (m - 1 - t)).toNat := by
   rw [e2, Nat.shiftRight_succ, Nat.testBit_eq_decide_div_mod_eq, ← Nat.shiftRight_eq_div_pow]
   generalize n >>> (m - 1 - t) = k
   by_cases h : k % 2 = 1
   ·rw [decide_eq_true h]
    show k = 2 * (k / 2) + 1
    omega
   ·rw [decide_eq_false h]
    show k = 2 * (k / 2) + 0
    omega
  rw [e1, e3]
  have hd := ih.sum ih
  rw [← pmul_two] at hd
  show (if n.testBit (m - 1 - t) then _ else _ : ES).is _
  cases hb : n.testBit (m - 1 - t)
  ·exact hd
  ·exact hd.sum hp
theorem erun_full {p : ES} {P : Pt} (hp : p.is P) {m n : Nat} (hn : n < 2 ^ m) : (erun m p n m).is (pmul n P) := by
 have := erun_is hp hn m (Nat.le_refl _)
 rwa [Nat.sub_self, Nat.shiftRight_zero] at this
def qB : Nat := 7237005577332262213973186563042994240857116359379907606001950938285454250989
theorem base_order_run : (erun 253 bP.es qB 253).x = 0 ∧ (erun 253 bP.es qB 253).y = (erun 253 bP.es qB 253).z := by decide +kernel
theorem base_order : pmul qB bP = pzero := by
 have h := erun_full (P := bP) (p := bP.es) bP.es_is (m := 253) (n := qB) (by decide +kernel)
 obtain ⟨hx, hy⟩ := base_order_run
 refine ext_same h ext_zero ?_ ?_
 ·rw [hx, Fin.zero_mul, Fin.zero_mul]
 ·rw [hy, Fin.mul_one, Fin.one_mul]
theorem dy_ne (y : Fp) : dF * (y * y) + 1 ≠ 0 := by
 intro h
 have hi := iF_sq
 have e : iF * iF = dF * (y * y) := by
  rw [hi]
  exact lin (-1) h (by clear h hi; grind)
 have hy := d_ratio e
 rw [hy, Fin.mul_zero, Fin.mul_zero, Fin.zero_add] at h
 exact f_one_ne h
def rad (y : Fp) : Fp := (y * y - 1) * fi (dF * (y * y) + 1)
theorem on_rad {x y : Fp} : On x y ↔ x * x = rad y := by
 have hn := dy_ne y
 have hf := f_inv hn
 unfold On rad
 generalize dF = d at *
 generalize hc : fi (d * (y * y) + 1) = c at *
 constructor
 ·intro h
  apply f_cancel hn
  have r : (y * y - 1) * c * (d * (y * y) + 1) = (y * y - 1) * ((d * (y * y) + 1) * c) := by clear h hf hc hn; grind
  rw [r, hf, Fin.mul_one]
  exact lin (-1) h (by clear h hf hc hn r; grind)
 ·intro h
  have h2 : x * x * (d * (y * y) + 1) = y * y - 1 := by
   rw [h]
   have r : (y * y - 1) * c * (d * (y * y) + 1) = (y * y - 1) * ((d * (y * y) + 1) * c) := by clear h hf hc hn; grind
   rw [r, hf, Fin.mul_one]
  exact lin (-1) h2 (by clear h h2 hf hc hn; grind)
theorem val_zero {x : Fp} : x.val = 0 ↔ x = 0 := by
 constructor
 ·intro h
  exact Fin.ext h
 ·intro h
  rw [h]
  rfl
theorem neg_val {x : Fp} (h : x ≠ 0) : (-x).val = pN - x.val := by
 have hx : 0 < x.val := Nat.pos_of_ne_zero (fun e => h (val_zero.1 e))
 have hl := x.isLt
 have e : (-x) = fp (-(x.val : Int)) := by rw [fp_neg, fp_self]
 rw [e, fp_val, ← pN_cast]
 have : (-(x.val : Int)) % (pN : Int) = ((pN - x.val : Nat) : Int) := by
  rw [← Int.add_emod_right, Int.emod_eq_of_lt (by omega) (by omega)]
  omega
 rw [this]
 rfl
theorem pN_odd : pN % 2 = 1 := by decide +kernel
theorem neg_odd {x : Fp} (h : x ≠ 0) : (-x).val % 2 ≠ x.val % 2 := by
 rw [neg_val h]
 have := x.isLt
 have := pN_odd
 omega
theorem f_sq_eq {x z : Fp} (h : x * x = z * z) : x = z ∨ x = -z := by
 have e : (x - z) * (x + z) = 0 := by
  have : (x - z) * (x + z) = x * x - z * z := by clear h; grind
  rw [this, h, f_self]
 rcases f_dom e with e | e
 ·exact Or.inl (f_sub e)
 ·exact Or.inr (lin 1 e (by clear h e; grind))
def enc (P : Pt) : Nat := P.y.val + 2 ^ 255 * (P.x.val % 2)
theorem pN_lt : pN < 2 ^ 255 := by decide +kernel
theorem enc_y (P : Pt) : enc P % 2 ^ 255 = P.y.val := by
 have := P.y.isLt
 have := pN_lt
 unfold enc
 omega
theorem enc_x (P : Pt) : enc P / 2 ^ 255 = P.x.val % 2 := by
 have := P.y.isLt
 have := pN_lt
 unfold enc
 omega
theorem enc_inj {P Q : Pt} (h : enc P = enc Q) : P = Q := by
 have hy : P.y = Q.y := Fin.ext (by rw [← enc_y P, ← enc_y Q, h])
 have hx : P.x.val % 2 = Q.x.val % 2 := by rw [← enc_x P, ← enc_x Q, h]
 have h1 := on_rad.1 P.on
 have h2 := on_rad.1 Q.on
 rw [hy, ← h2] at h1
 refine Pt.ext' ?_ hy
 rcases f_sq_eq h1 with e | e
 ·exact e
 ·by_cases h0 : Q.x = 0
  ·rw [e, h0]
   decide +kernel
  ·rw [e] at hx
   exact absurd hx (neg_odd h0)
def pickX (x : Fp) (b : Nat) : Fp := if x.val % 2 = b then x else -x
theorem pickX_sq (x : Fp) (b : Nat) : pickX x b * pickX x b = x * x := by
 unfold pickX
 split
 ·rfl
 ·grind
theorem pickX_odd {x : Fp} {b : Nat} (hb : b < 2) (h : ¬ (x = 0 ∧ b = 1)) : (pickX x b).val % 2 = b := by
 unfold pickX
 by_cases hx : x.val % 2 = b
 ·rw [if_pos hx]
  exact hx
 ·rw [if_neg hx]
  have h0 : x ≠ 0 := fun e => by
   subst e
   have : (0 : Fp).val = 0 := rfl
   rw [this] at hx
   exact h ⟨rfl, by omega⟩
  have := neg_odd h0
  omega
def readP (x y : Fp) (b : Nat) (h : x * x = rad y) : Pt := ⟨pickX x b, y, on_rad.2 ((pickX_sq x b).trans h)⟩
theorem readP_enc {x y : Fp} {b : Nat} (h : x * x = rad y) (hb : b < 2) (h0 : ¬ (x = 0 ∧ b = 1)) : enc (readP x y b h) = y.val + 2 ^ 255 * b := by
 show y.val + 2 ^ 255 * ((pickX x b).val % 2) = _
 rw [pickX_odd hb h0]
theorem no_point {y : Fp} {b : Nat} (hb : b < 2) (h : ∀ x, x * x = rad y → x = 0 ∧ b = 1) (P : Pt) : enc P ≠ y.val + 2 ^ 255 * b := by
 intro he
 have hy : P.y = y := Fin.ext (by
  rw [← enc_y P, he]
  have := y.isLt
  have := pN_lt
  omega)
 have hx : P.x.val % 2 = b := by
  rw [← enc_x P, he]
  have := y.isLt
  have := pN_lt
  omega
 obtain ⟨e1, e2⟩ := h P.x (hy ▸ on_rad.1 P.on)
 rw [e1, e2] at hx
 exact absurd hx (by decide)
theorem enc_lt (P : Pt) : enc P < 2 ^ 256 := by
 have := P.y.isLt
 have := pN_lt
 unfold enc
 omega
theorem sign_holds (r k a : Nat) : pmul ((r + k * a) % qB) bP = padd (pmul r bP) (pmul k (pmul a bP)) := by
 rw [pmul_mod base_order, pmul_add, pmul_mul]
theorem order_four {R : Pt} (h4 : pmul 4 R = pzero) (n : Nat) (h : padd R (pmul n bP) = pzero) : R = pzero := by
 have h1 : pmul qB (padd R (pmul n bP)) = pzero := by rw [h, pmul_pzero]
 rw [pmul_padd, pmul_comm, base_order, pmul_pzero, padd_zero] at h1
 have e : qB = qB / 4 * 4 + 1 := by decide +kernel
 rw [e, pmul_add, pmul_mul, h4, pmul_pzero, pmul_one, zero_padd] at h1
 exact h1
section
section
variable {P : Program} {ops : Array Oper} {Q : Exit → Act → World → Prop}
theorem wpList_eql {rest : List Oper} {o : Oper} {a : Act} {w : World} (hw : Region.wanted o (yielded ops a.tmps) = true) (b : BinOp) (ty rt e : TypeId) (x y : Operand) (n : Nat) (i : TypeInfo) (xs ys : List UInt8) (r : Bool) (ho : o.op = .binOp b ty x y rt)
  (hb : b = .eql ∧ decide (xs = ys) = r ∨ b = .neq ∧ decide (xs = ys) = !r)
  (hu : P.underlying ty = some (.array n e)) (he : P.underlying e = some (.int .u8)) (hi : P.info? e = some i) (hc : P.cellsOf e = 1) (hg : P.eqGuardType P.depth ty = false)
  (hx : a.eval x = .agg (xs.map bval).toArray) (hy : a.eval y = .agg (ys.map bval).toArray) (lx : xs.length = n) (ly : ys.length = n)
  (next : wpList P ops Q rest (a.put o.dst (.bool r)) w) : wpList P ops Q (o :: rest) a w := by
 refine wpList_step fun K hK => ?_
 rw [if_pos hw]
 have h1 := run_equal_bytes hu he hi hc xs ys lx ly w
 unfold Oper.wp execOp
 rcases hb with ⟨rfl, hb⟩ | ⟨rfl, hb⟩
 ·rw [hb] at h1
  simp only [ho, hx, hy]
  simp [eqGuard, hg, binOp, h1]
  exact hK _ _ next
 ·rw [hb] at h1
  simp only [ho, hx, hy]
  simp [eqGuard, hg, binOp, h1]
  exact hK _ _ next
end
end
section
section
variable {P : Program} {ops : Array Oper} {Q : Exit → Act → World → Prop}
theorem wpList_load_w {rest : List Oper} {o : Oper} {a : Act} {w : World} (hw : Region.wanted o (yielded ops a.tmps) = true) (ty : TypeId) (x : Operand) (ho : o.op = .load ty x)
  (c : Nat) (hx : a.eval x = .pointer (some ⟨c, 0, none⟩)) (t : TypeId) (cs : List Value) (n : Nat) (e : TypeId) (hb : Blk w c cs t)
  (hu : P.underlying ty = some (.array n e)) (hi : (P.info? ty).map (·.size) = some cs.length)
  (next : wpList P ops Q rest (a.put o.dst (.agg cs.toArray)) w) : wpList P ops Q (o :: rest) a w := by
 refine wpList_step fun K hK => ?_
 rw [if_pos hw]
 exact wp_load_mid ty x ho c 0 hx cs _ hb.range hu rfl hi (hK _ _ next)
end
end
section
section
variable {P : Program} {w w' : World} {v : Value} {vs : List Value}
theorem ext_own {a b d : World} {base : Nat} {e : TypeId} {n : Nat} {x : Value} {xs : List Value} (h : Ext a b) (ho : b.ownsRow base e 1 x n xs) (hb : a.heap.size ≤ base) (hg : b.grownBy d x.ownBlock) : Ext a d :=
 Below.grown h hg h.size (fun r hr => by
  obtain ⟨_, h1 | ⟨g, cap, cur, rfl, h2, _⟩⟩ := ho
  ·obtain ⟨rfl, _⟩ := h1
   cases hr
  ·cases hr
   exact Nat.le_trans hb h2)
end
end
section
section
variable {P : Program} {ops : Array Oper} {Q : Exit → Act → World → Prop} {md : Region.Mode} {t : Nat} {C : World → Prop} {D : Act → Prop}
theorem run_alloc_zero {o : Oper} {a : Act} {ty : TypeId} {zs : List Value} (ho : o.op = .alloc ty) (hz : ∀ w, (zeroValue ty).run P w = .ok (.agg zs.toArray) w) (w : World) :
  (execOp a.eval o).run P w = .ok (.value (.pointer (some ⟨w.heap.size, 0, none⟩))) (w.alloc (.cells zs.toArray ty)) := by
 unfold execOp
 simp [ho, Instr.alloc, hz, newVar, newRow, Value.cells]
theorem two_stores {k : Nat} {o3 o4 : Oper} {listed : Array Bool} {a : Act} {w w' : World} (ty : TypeId) (d1 d2 p q : Nat) (y1 y2 : Operand) (zs vs1 vs2 : List Value) (hk3 : ops[k]? = some o3) (hk4 : ops[k + 1]? = some o4)
  (hr : Region.ready md ops listed = [k]) (hr2 : Region.ready md ops (listed.setIfInBounds k true) = [k + 1]) (hr3 : Region.ready md ops ((listed.setIfInBounds k true).setIfInBounds (k + 1) true) = [])
  (hg3 : o3.guard = none) (hg4 : o4.guard = none) (ho3 : o3.op = .store ty (.tmp d1) y1) (ho4 : o4.op = .store ty (.tmp d2) y2) (hn3 : o3.dst = none) (hn4 : o4.dst = none)
  (hx1 : a.eval (.tmp d1) = .pointer (some ⟨p, 0, none⟩)) (hx2 : a.eval (.tmp d2) = .pointer (some ⟨q, 0, none⟩)) (hy1 : a.eval y1 = .agg vs1.toArray) (hy2 : a.eval y2 = .agg vs2.toArray) (hpq : p ≠ q)
  (hb1 : Blk w' p zs ty) (hb2 : Blk w' q zs ty) (hl1 : vs1.length = zs.length) (hl2 : vs2.length = zs.length) (hi1 : (P.info? ty).map (·.size) = some vs1.length) (hi2 : (P.info? ty).map (·.size) = some vs2.length)
  (h1 : ∀ v ∈ vs1, v.oneCell' = true) (h2 : ∀ v ∈ vs2, v.oneCell' = true) (he : Ext w w') (hp : w.heap.size ≤ p) (hq : w.heap.size ≤ q)
  (h : ∀ w4, Blk w4 p vs1 ty → Blk w4 q vs2 ty → Ext w w4 → Q .normal a w4) : wpAny P md ops Q 2 listed a w' := by
 refine ⟨fun h0 => (by rw [hr] at h0; cases h0), fun i hi => ?_⟩
 rw [hr] at hi
 obtain rfl : i = k := by simpa using hi
 unfold wpOp
 simp only [hk3, Region.wanted, hg3, if_true]
 left
 refine wp_store_blk ty (.tmp d1) y1 ho3 p vs1 hx1 hy1 ty zs hb1 hl1 hi1 h1 fun w2 hb3 hg => ?_
 rw [hn3]
 refine ⟨fun h0 => (by rw [hr2] at h0; cases h0), fun j hj => ?_⟩
 rw [hr2] at hj
 obtain rfl : j = i + 1 := by simpa using hj
 unfold wpOp
 simp only [hk4, Region.wanted, hg4, if_true]
 left
 refine wp_store_blk ty (.tmp d2) y2 ho4 q vs2 hx2 hy2 ty zs (hb2.grown hg (by simpa using hpq)) hl2 hi2 h2 fun w4 hb4 hg4 => ?_
 rw [hn4]
 exact ⟨hr3, h w4 (hb3.grown hg4 (by simpa using fun e => hpq e.symm)) hb4 (ext_grown (ext_grown he hg hp) hg4 hq)⟩
theorem end_var2 {k : Nat} {o1 o2 o3 o4 : Oper} {listed : Array Bool} {a : Act} {w : World} (ty : TypeId) (d1 d2 : Nat) (y1 y2 : Operand) (zs vs1 vs2 : List Value)
  (hk1 : ops[k]? = some o1) (hk2 : ops[k + 1]? = some o2) (hk3 : ops[k + 2]? = some o3) (hk4 : ops[k + 2 + 1]? = some o4)
  (hr : Region.ready md ops listed = [k, k + 1]) (hr1 : Region.ready md ops (listed.setIfInBounds k true) = [k + 1]) (hr2 : Region.ready md ops (listed.setIfInBounds (k + 1) true) = [k])
  (hr3 : Region.ready md ops ((listed.setIfInBounds k true).setIfInBounds (k + 1) true) = [k + 2]) (hr4 : Region.ready md ops (((listed.setIfInBounds k true).setIfInBounds (k + 1) true).setIfInBounds (k + 2) true) = [k + 2 + 1])
  (hr5 : Region.ready md ops ((((listed.setIfInBounds k true).setIfInBounds (k + 1) true).setIfInBounds (k + 2) true).setIfInBounds (k + 2 + 1) true) = [])
  (hd : doneB t listed = false) (hd1 : doneB t (listed.setIfInBounds k true) = false) (hd2 : doneB t (listed.setIfInBounds (k + 1) true) = false) (hd3 : doneB t ((listed.setIfInBounds k true).setIfInBounds (k + 1) true) = true)
  (hg1 : o1.guard = none) (hg2 : o2.guard = none) (hg3 : o3.guard = none) (hg4 : o4.guard = none) (ho1 : o1.op = .alloc ty) (ho2 : o2.op = .alloc ty) (hd1' : o1.dst = some d1) (hd2' : o2.dst = some d2) (hdd : d1 ≠ d2)
  (hz : ∀ w, (zeroValue ty).run P w = .ok (.agg zs.toArray) w) (ho3 : o3.op = .store ty (.tmp d1) y1) (ho4 : o4.op = .store ty (.tmp d2) y2) (hn3 : o3.dst = none) (hn4 : o4.dst = none) (hs1 : d1 < a.tmps.size) (hs2 : d2 < a.tmps.size)
  (hy1 : ∀ p q, ((a.put (some d1) (.pointer (some ⟨p, 0, none⟩))).put (some d2) (.pointer (some ⟨q, 0, none⟩))).eval y1 = .agg vs1.toArray)
  (hy2 : ∀ p q, ((a.put (some d1) (.pointer (some ⟨p, 0, none⟩))).put (some d2) (.pointer (some ⟨q, 0, none⟩))).eval y2 = .agg vs2.toArray)
  (hl1 : vs1.length = zs.length) (hl2 : vs2.length = zs.length) (hi1 : (P.info? ty).map (·.size) = some vs1.length) (hi2 : (P.info? ty).map (·.size) = some vs2.length) (h1 : ∀ v ∈ vs1, v.oneCell' = true) (h2 : ∀ v ∈ vs2, v.oneCell' = true)
  (h : ∀ p q w', p ≠ q → w.heap.size ≤ p → w.heap.size ≤ q → Blk w' p vs1 ty → Blk w' q vs2 ty → Ext w w' → Q .normal ((a.put (some d1) (.pointer (some ⟨p, 0, none⟩))).put (some d2) (.pointer (some ⟨q, 0, none⟩))) w') :
  wpAnyB P md ops Q t 4 listed a w.drew := by
 have tail : ∀ p q w', Blk w' p zs ty → Blk w' q zs ty → p ≠ q → w.heap.size ≤ p → w.heap.size ≤ q → Ext w w' →
   wpAny P md ops Q 2 ((listed.setIfInBounds k true).setIfInBounds (k + 1) true) ((a.put (some d1) (.pointer (some ⟨p, 0, none⟩))).put (some d2) (.pointer (some ⟨q, 0, none⟩))) w' := by
  intro p q w' b1 b2 hpq hp hq he
  refine two_stores ty d1 d2 p q y1 y2 zs vs1 vs2 hk3 hk4 hr3 hr4 hr5 hg3 hg4 ho3 ho4 hn3 hn4 ?_ ?_ (hy1 p q) (hy2 p q) hpq b1 b2 hl1 hl2 hi1 hi2 h1 h2 he hp hq (fun w4 b3 b4 e4 => h p q w4 hpq hp hq b3 b4 e4)
  ·simp [Act.eval, Act.put, hs1, Ne.symm hdd]
  ·simp [Act.eval, Act.put, hs2]
 refine ⟨fun h0 => (by rw [hd] at h0; cases h0), fun _ w1 hw1 => ⟨by rw [hr]; simp, fun i hi => ?_⟩⟩
 rw [hr] at hi
 have he1 : Ext w w1 := (Ext.drew w).trans hw1
 simp only [List.mem_cons, List.not_mem_nil, or_false] at hi
 rcases hi with rfl | rfl
 ·unfold wpOp
  simp only [hk1, Region.wanted, hg1, if_true]
  left
  unfold Oper.wp
  rw [run_alloc_zero ho1 hz]
  simp only [Oper.upon, hd1']
  refine ⟨Ext.alloc _ _, fun h0 => (by rw [hd1] at h0; cases h0), fun _ w2 hw2 => ⟨by rw [hr1]; simp, fun j hj => ?_⟩⟩
  rw [hr1] at hj
  obtain rfl : j = i + 1 := by simpa using hj
  have hb1 : Blk w2 w1.heap.size zs ty := ext_blk (Blk.made w1 zs ty) hw2
  unfold wpOp
  simp only [hk2, Region.wanted, hg2, if_true]
  left
  unfold Oper.wp
  rw [run_alloc_zero ho2 hz]
  simp only [Oper.upon, hd2']
  refine ⟨Ext.alloc _ _, fun _ w3 hw3 => ?_, fun h0 => (by rw [hd3] at h0; cases h0)⟩
  refine tail _ _ w3 (ext_blk (ext_blk hb1 (Ext.alloc w2 _)) hw3) (ext_blk (Blk.made w2 zs ty) hw3) (by have := hb1.lt; omega) he1.size (Nat.le_trans he1.size (Nat.le_of_lt hb1.lt)) (((he1.trans (Ext.alloc _ _)).trans hw2).trans ((Ext.alloc _ _).trans hw3))
 ·unfold wpOp
  simp only [hk2, Region.wanted, hg2, if_true]
  left
  unfold Oper.wp
  rw [run_alloc_zero ho2 hz]
  simp only [Oper.upon, hd2']
  refine ⟨Ext.alloc _ _, fun h0 => (by rw [hd2] at h0; cases h0), fun _ w2 hw2 => ⟨by rw [hr2]; simp, fun j hj => ?_⟩⟩
  rw [hr2] at hj
  obtain rfl : j = k := by simpa using hj
  have hb1 : Blk w2 w1.heap.size zs ty := ext_blk (Blk.made w1 zs ty) hw2
  unfold wpOp
  simp only [hk1, Region.wanted, hg1, if_true]
  left
  unfold Oper.wp
  rw [run_alloc_zero ho1 hz]
  simp only [Oper.upon, hd1']
  rw [Array.setIfInBounds_comm _ _ (by omega : j + 1 ≠ j), Act.put_comm a _ _ (by simpa using fun e => hdd e)]
  refine ⟨Ext.alloc _ _, fun _ w3 hw3 => ?_, fun h0 => (by rw [hd3] at h0; cases h0)⟩
  refine tail _ _ w3 (ext_blk (Blk.made w2 zs ty) hw3) (ext_blk (ext_blk hb1 (Ext.alloc w2 _)) hw3) (by have := hb1.lt; omega) (Nat.le_trans he1.size (Nat.le_of_lt hb1.lt)) he1.size (((he1.trans (Ext.alloc _ _)).trans hw2).trans ((Ext.alloc _ _).trans hw3))
theorem end_set_assign {k : Nat} {o o2 : Oper} {listed : Array Bool} {a : Act} {w : World} (ty tb : TypeId) (x y z : Operand) (d : Nat) (u : Value) (c : Nat) (vs cs : List Value) (hk : ops[k]? = some o) (hk2 : ops[k + 1]? = some o2) (hr : Region.ready md ops listed = [k]) (hr2 : Region.ready md ops (listed.setIfInBounds k true) = [k + 1])
  (hr3 : Region.ready md ops ((listed.setIfInBounds k true).setIfInBounds (k + 1) true) = []) (hd : doneB t listed = true) (hg : o.guard = none) (hg2 : o2.guard = none) (hn : o.dst = none)
  (ho : o.op = .store ty x y) (hx : a.eval x = .pointer (some ⟨c, 0, none⟩)) (hy : a.eval y = .agg vs.toArray) (hb : Blk w c cs tb) (hl : vs.length = cs.length) (hi : (P.info? ty).map (·.size) = some vs.length) (h1 : ∀ v ∈ vs, v.oneCell' = true)
  (ho2 : o2.op = .assign z) (hd2 : o2.dst = some d) (hz : a.eval z = u) (h : ∀ w', Blk w' c vs tb → w.grownBy w' (some c) → Q .normal (a.put (some d) u) w') : wpAnyB P md ops Q t 2 listed a w.drew := by
 refine ⟨fun _ w' hw' => ⟨fun h0 => (by rw [hr] at h0; cases h0), fun i hi' => ?_⟩, fun h0 => (by rw [hd] at h0; cases h0)⟩
 rw [hr] at hi'
 obtain rfl : i = k := by simpa using hi'
 have he : Ext w w' := (Ext.drew w).trans hw'
 unfold wpOp
 simp only [hk, Region.wanted, hg, if_true]
 left
 refine wp_store_blk ty x y ho c vs hx hy tb cs (ext_blk hb he) hl hi h1 fun w2 hb2 hg2' => ?_
 rw [hn]
 refine ⟨fun h0 => (by rw [hr2] at h0; cases h0), fun j hj => ?_⟩
 rw [hr2] at hj
 obtain rfl : j = i + 1 := by simpa using hj
 unfold wpOp
 simp only [hk2, Region.wanted, hg2, if_true]
 left
 unfold Oper.wp execOp
 have hz' : (Act.put a none undef).eval z = u := hz
 simp only [ho2, hz', Sem.run_pure, Oper.upon, hd2]
 exact ⟨hr3, h w2 hb2 (grownBy_trans (grown_of_below he _) hg2')⟩
end
end
section
section
variable {P : Program} {ops : Array Oper} {Q : Exit → Act → World → Prop} {md : Region.Mode} {t : Nat}
theorem end_free {m : Nat} {listed : Array Bool} {a : Act} {w : World} (hd : doneB t listed = true) (h0 : Region.ready md ops listed ≠ []) (h : ∀ w', Ext w w' → wpAny P md ops Q (m + 1) listed a w') : wpAnyB P md ops Q t (m + 1) listed a w.drew :=
 ⟨fun _ w' hw' => h w' ((Ext.drew w).trans hw'), fun h' => by rw [hd] at h'; cases h'⟩
theorem any_one {m k : Nat} {o : Oper} {listed : Array Bool} {a : Act} {w : World} (hk : ops[k]? = some o) (hr : Region.ready md ops listed = [k]) (hg : o.guard = none)
  (h : o.wp P a w (fun a' w'' => wpAny P md ops Q m (listed.setIfInBounds k true) a' w'') Q) : wpAny P md ops Q (m + 1) listed a w := by
 refine ⟨fun h0 => (by rw [hr] at h0; cases h0), fun i hi => ?_⟩
 rw [hr] at hi
 obtain rfl : i = k := by simpa using hi
 unfold wpOp
 simp only [hk, Region.wanted, hg, if_true]
 exact Or.inl h
theorem any_nil {listed : Array Bool} {a : Act} {w : World} (hr : Region.ready md ops listed = []) (h : Q .normal a w) : wpAny P md ops Q 0 listed a w := ⟨hr, h⟩
theorem wp_buildSlice_d {o : Oper} {a : Act} {w : World} {K : Act → World → Prop} (d : Option Nat) (t e : TypeId) (len : Nat) (parts : Array (Nat × Operand)) (hd : o.dst = d) (ho : o.op = .buildSlice t len parts)
  (cells : Array Value) (ie : TypeInfo) (z : Value)
  (hu : P.underlying t = some (.slice e)) (hie : P.info? e = some ie) (hz : ie.zero = some z) (hsmall : ¬ len * ie.size > 2 ^ 24) (hpos : ¬ len * ie.size = 0)
  (hf : Instr.fill (fun i => some (i * ie.size, ie.size)) ((Array.range (len * ie.size)).map (z.cells[· % z.cells.size]!)) (parts.map fun (i, x) => (i, a.eval x)).toList = some cells)
  (h : K (a.put d (.slice (some ⟨w.heap.size, 0, none⟩) len len)) (w.alloc (.cells cells e))) : o.wp P a w K Q := by
 subst hd
 exact wp_buildSlice t e len parts ho cells ie z hu hie hz hsmall hpos hf h
theorem det_sindex {C : World → Prop} {D : Act → Prop} {o : Oper} {rest : List Oper} {a : Act} (ty e : TypeId) (x y : Operand) (c off len cap j : Nat) (hw : Region.wanted o (yielded ops a.tmps) = true) (ho : o.op = .indexAddr ty x y) (hx : a.eval x = .slice (some ⟨c, off, none⟩) len cap) (hy : a.eval y = .int .i64 (j : Int))
  (hu : P.underlying ty = some (.slice e)) (hj : j < len) (hs : ∀ w, (sizeOf e).run P w = .ok 1 w)
  (next : wpDet P ops C D rest (a.put o.dst (.pointer (some ⟨c, off + j, none⟩)))) : wpDet P ops C D (o :: rest) a :=
 det_val _ hw (fun w _ => by
  have h1 : (0 : Int) ≤ (j : Int) ∧ (j : Int) < (len : Int) := by omega
  unfold execOp
  simp [ho, hx, hy, Instr.indexAt, asIntOf, run_underlying hu, Instr.sureAddr, h1, hs, WideShapes.add_plain, hj]) next
end
end
section
section
variable {P : Program} {ops : Array Oper} {Q : Exit → Act → World → Prop}
theorem quietAt_ext {o : Oper} {a : Act} {w w' : World} {v : Value} (he : Ext w w') (h : o.quietAt P a (Ext w') w' v) : o.quietAt P a (Ext w) w' v := by
 unfold Oper.quietAt at *
 generalize (execOp a.eval o).run P w' = r at *
 cases r with
 | halt x w2 => exact h.elim
 | ok n w2 =>
  cases n <;> simp only [Oper.quietUpon] at h ⊢
  case value u => exact h
  case skip => exact h
  case enter f args => exact ⟨h.1, h.2.mono fun e w3 h3 => ⟨h3.1, he.trans h3.2⟩⟩
theorem quiet_of_det {w : World} {D : Act → Prop} : ∀ (l : List Oper) (a : Act), wpDet P ops (Ext w) D l a → wpQuiet P ops (Ext w) D l a
 | [], _, h => h
 | o :: l, a, h => by
  unfold wpQuiet
  split
  ·rename_i hw
   obtain ⟨v, h1, h2⟩ := h.1 hw
   exact ⟨v, fun w' hw' => quietAt_ext hw' (h1 w' hw'), quiet_of_det l _ h2⟩
  ·rename_i hw
   exact quiet_of_det l _ (h.2 (by simpa using hw))
theorem wp_region_all {id : Nat} {a : Act} {w : World} (hm : P.follows .mixedOrders = true) (hB : Region.lexB .any ops = true)
  (h : wpDet P ops (Ext w) (fun a' => ∀ w', Ext w w' → Q .normal a' w') ops.toList a) : (Code.region id ops true).wp P Q a w :=
 wp_region_quiet (C := Ext w) hm hB (Ext.drew w) (quiet_of_det _ _ h)
end
end
section
section
variable {P : Program} {ops : Array Oper} {S : World → Prop}
theorem yi_val {o : Oper} {a : Act} (v : Value) (hw : Region.wanted o (yielded ops a.tmps) = true) (h : ∀ w, S w → (execOp a.eval o).run P w = .ok (.value v) w) : YieldsIf P ops S o v a := Or.inl ⟨hw, h⟩
theorem yi_move {o : Oper} {a : Act} (x : Operand) (v : Value) (hw : Region.wanted o (yielded ops a.tmps) = true) (ho : o.op = .move x) (hx : a.eval x = v) : YieldsIf P ops S o v a :=
 yi_val v hw (fun w _ => by unfold execOp; simp only [ho, hx, Sem.run_pure])
theorem yi_slice {o : Oper} {a : Act} (t : TypeId) (x : Operand) (lo hi : Option Operand) (vx v : Value) (vlo vhi : Option Value) (hw : Region.wanted o (yielded ops a.tmps) = true) (ho : o.op = .slice t x lo hi none) (hx : a.eval x = vx) (hlo : lo.map a.eval = vlo) (hhi : hi.map a.eval = vhi)
  (h : ∀ w, (Instr.sliceAt t vx vlo vhi none).run P w = .ok v w) : YieldsIf P ops S o v a :=
 yi_val v hw (fun w _ => by
  unfold execOp
  simp only [ho, hx, hlo, hhi, Option.map_none, Sem.run_bind, h, Result.andThen_ok, Sem.run_pure])
theorem step_wp {o : Oper} {a : Act} {w : World} {K : Act → World → Prop} {Q : Exit → Act → World → Prop} {E : Prop} (hw : Region.wanted o (yielded ops a.tmps) = true) (h : Oper.wp P o a w K Q) : if Region.wanted o (yielded ops a.tmps) = true then Oper.wp P o a w K Q else E := by
 rw [if_pos hw]
 exact h
end
end
section
section
variable {P : Program} {ops : Array Oper} {S : World → Prop}
theorem wp_alloc_d {o : Oper} {a : Act} {w : World} {K : Act → World → Prop} {Q : Exit → Act → World → Prop} (d : Option Nat) (ty : TypeId) (zs : List Value) (hd : o.dst = d) (ho : o.op = .alloc ty) (hz : ∀ w, (zeroValue ty).run P w = .ok (.agg zs.toArray) w)
  (h : K (a.put d (.pointer (some ⟨w.heap.size, 0, none⟩))) (w.alloc (.cells zs.toArray ty))) : o.wp P a w K Q := by
 subst hd
 unfold Oper.wp
 rw [run_alloc_zero ho hz]
 exact h
end
end
theorem fold_lay (off : Nat) (post : List Value) : ∀ (new mid pre : List Value) (k : Nat), new.length = mid.length → pre.length = off + k →
  (new.zipIdx k).foldl (fun (cs : Array Value) (x : Value × Nat) => cs.setIfInBounds (off + x.2) x.1) (pre ++ (mid ++ post)).toArray = (pre ++ (new ++ post)).toArray
 | [], mid, pre, k, h, hp => by
  obtain rfl : mid = [] := List.eq_nil_of_length_eq_zero (by simpa using h.symm)
  rfl
 | c :: new, [], pre, k, h, hp => by simp at h
 | c :: new, m :: mid, pre, k, h, hp => by
  rw [List.zipIdx_cons, List.foldl_cons]
  have e : (pre ++ (m :: mid ++ post)).toArray.setIfInBounds (off + k) c = ((pre ++ [c]) ++ (mid ++ post)).toArray := by
   rw [List.setIfInBounds_toArray, ← hp, List.set_append_right _ _ (Nat.le_refl _), Nat.sub_self]
   simp
  show (new.zipIdx (k + 1)).foldl _ ((pre ++ (m :: mid ++ post)).toArray.setIfInBounds (off + k) c) = _
  rw [e, fold_lay off post new mid (pre ++ [c]) (k + 1) (by simpa using h) (by simp [hp]; omega)]
  simp
theorem fill_lay {place : Nat → Option (Nat × Nat)} {i off n : Nat} {pre mid post new : List Value} {rest : List (Nat × Value)} (hp : place i = some (off, n)) (hl : pre.length = off) (hm : mid.length = n) (hn : new.length = n) :
  Instr.fill place (pre ++ (mid ++ post)).toArray ((i, .agg new.toArray) :: rest) = Instr.fill place (pre ++ (new ++ post)).toArray rest := by
 have e : (new.toArray.zipIdx.foldl (fun (cs : Array Value) (x : Value × Nat) => cs.setIfInBounds (off + x.2) x.1) (pre ++ (mid ++ post)).toArray) = (pre ++ (new ++ post)).toArray := by
  rw [← fold_lay off post new mid pre 0 (by rw [hn, hm]) (by rw [hl]; rfl), ← Array.foldl_toList, Array.toList_zipIdx]
 rw [Instr.fill, hp]
 have h1 : (Value.cells (.agg new.toArray)).size = n := by simpa [Value.cells] using hn
 have h2 : ¬ (off + n > (pre ++ (mid ++ post)).toArray.size) := by simp [hl, hm]
 simp only [h1]
 rw [if_neg (by simp [h2]; simp at h2; omega)]
 exact congrArg (fun z => Instr.fill place z rest) e
theorem boxes_one (w : World) (ks : List Value) (T : TypeId) : Blk (w.alloc (.cells ks.toArray T)) w.heap.size ks T ∧ Ext w (w.alloc (.cells ks.toArray T)) := ⟨Blk.made w ks T, Ext.alloc w _⟩
theorem wpList_build {P : Program} {w : World} {ops : Array Oper} {rest : List Oper} {o : Oper} {a : Act} {Q : Exit → Act → World → Prop} (hgd : o.guard = none) (ty : TypeId) (parts : Array (Nat × Operand)) (ho : o.op = .build ty parts)
  (vs : Array (Nat × Value)) (hp : parts.map (fun (i, x) => (i, a.eval x)) = vs) (v : Value) (hr : (Instr.build ty vs).run P w = .ok v w) (h : wpList P ops Q rest (a.put o.dst v) w) : wpList P ops Q (o :: rest) a w :=
 wpList_plain hgd fun _ hK => by
  subst hp
  unfold Oper.wp execOp
  simp only [ho, Sem.run_bind, hr, Result.andThen_ok, Sem.run_pure]
  exact hK _ _ h
theorem glob_ext {w w' : World} {b : Nat} {v : Value} {vs : List Value} (h : w.rangeAt b 0 (v :: vs)) (hb : Ext w w') : w'.rangeAt b 0 (v :: vs) := by
 have h0 := h 0 v rfl
 have hl : b < w.heap.size := by
  apply Classical.byContradiction
  intro hn
  have e : w.heap[b]? = none := by rw [Array.getElem?_eq_none]; omega
  simp [World.cell?, e] at h0
 intro j u hj
 have h1 := h j u hj
 have e := hb.block b hl
 simpa [World.cell?, e] using h1
def qP : Pt := ⟨iF, 0, by
 unfold On
 rw [iF_sq]
 rw [Fin.mul_zero, Fin.mul_zero, Fin.mul_zero, Fin.add_zero]
 decide +kernel⟩
theorem qP_two : padd qP qP = ⟨0, -1, by unfold On; decide +kernel⟩ := by
 refine (padd_of ?_ ?_).symm
 ·show (0 : Fp) * _ = iF * 0 + iF * 0
  rw [Fin.zero_mul, Fin.mul_zero, Fin.add_zero]
 ·show (-1 : Fp) * (1 - dF * (iF * iF * (0 * 0))) = 0 * 0 + iF * iF
  rw [iF_sq, Fin.mul_zero, Fin.mul_zero, Fin.mul_zero]
  decide +kernel
theorem qP_four : padd (padd qP qP) (padd qP qP) = pzero := by
 rw [qP_two]
 refine (padd_of ?_ ?_).symm
 ·show (0 : Fp) * _ = 0 * (-1) + 0 * (-1)
  rw [Fin.zero_mul, Fin.zero_mul, Fin.add_zero]
 ·show (1 : Fp) * (1 - dF * (0 * 0 * (-1 * -1))) = -1 * -1 + 0 * 0
  rw [Fin.mul_zero, Fin.zero_mul, Fin.mul_zero]
  decide +kernel
def gV (B : Int) : List Int → Int
 | [] => 0
 | z :: r => z + B * gV B r
theorem gV_set (B : Int) : ∀ (zs : List Int) (i : Nat) (z : Int), i < zs.length → gV B (zs.set i z) = gV B zs + (z - zs.getD i 0) * B ^ i
 | [], i, z, h => by simp at h
 | a :: r, 0, z, h => by simp [gV]; omega
 | a :: r, i + 1, z, h => by
  have := gV_set B r i z (by simpa using h)
  simp only [List.set_cons_succ, gV, this, List.getD_cons_succ, Int.pow_succ]
  grind
theorem gV_append (B : Int) : ∀ (a b : List Int), gV B (a ++ b) = gV B a + B ^ a.length * gV B b
 | [], b => by simp [gV]
 | z :: r, b => by
  simp only [List.cons_append, gV, gV_append B r b, List.length_cons, Int.pow_succ]
  grind
theorem gV_cut (B : Int) (zs : List Int) (d : Nat) (h : d ≤ zs.length) : gV B zs = gV B (zs.take d) + B ^ d * gV B (zs.drop d) := by
 have := gV_append B (zs.take d) (zs.drop d)
 rw [List.take_append_drop, List.length_take, Nat.min_eq_left h] at this
 exact this
theorem gV_take_succ (B : Int) (zs : List Int) (k : Nat) (h : k < zs.length) : gV B (zs.take (k + 1)) = gV B (zs.take k) + zs.getD k 0 * B ^ k := by
 rw [List.take_succ_eq_append_getElem h, gV_append, List.length_take, Nat.min_eq_left (by omega)]
 simp only [gV, List.getD, List.getElem?_eq_getElem h, Option.getD_some]
 grind
theorem gV_zeros (B : Int) : ∀ (n : Nat), gV B (List.replicate n 0) = 0
 | 0 => rfl
 | n + 1 => by simp [List.replicate_succ, gV, gV_zeros B n]
theorem gV_zero_of (B : Int) : ∀ {zs : List Int}, (∀ i, zs.getD i 0 = 0) → gV B zs = 0
 | [], _ => rfl
 | z :: r, h => by
  have h0 : z = 0 := h 0
  have h1 := gV_zero_of B (zs := r) (fun i => by have := h (i + 1); simpa using this)
  simp [gV, h0, h1]
theorem gV_range {B : Int} (hB : 0 < B) : ∀ {zs : List Int}, (∀ i, i < zs.length → 0 ≤ zs.getD i 0 ∧ zs.getD i 0 < B) → 0 ≤ gV B zs ∧ gV B zs < B ^ zs.length
 | [], _ => by simp [gV]
 | z :: r, h => by
  have h0 : 0 ≤ z ∧ z < B := h 0 (by simp)
  have h1 := gV_range hB (zs := r) (fun i hi => by have := h (i + 1) (by simpa using hi); simpa using this)
  obtain ⟨p1, p2⟩ := h1
  have q1 : 0 ≤ B * gV B r := Int.mul_nonneg (by omega) p1
  have q2 : B * (gV B r + 1) ≤ B * B ^ r.length := Int.mul_le_mul_of_nonneg_left (by omega) (by omega)
  rw [Int.mul_add, Int.mul_one] at q2
  simp only [gV, List.length_cons, Int.pow_succ]
  rw [Int.mul_comm (B ^ r.length) B]
  omega
theorem getD_eq {zs : List Int} {i : Nat} (h : i < zs.length) : zs.getD i 0 = zs[i] := by simp [List.getD, h]
theorem getD_out {zs : List Int} {i : Nat} (h : zs.length ≤ i) : zs.getD i 0 = 0 := by simp [List.getD, h]
theorem getD_take {zs : List Int} {i d : Nat} (h : i < d) : (zs.take d).getD i 0 = zs.getD i 0 := by simp [List.getD, List.getElem?_take, h]
theorem getD_drop {zs : List Int} {i d : Nat} : (zs.drop d).getD i 0 = zs.getD (d + i) 0 := by simp [List.getD, List.getElem?_drop]
theorem ext_getD {xs ys : List Int} (hl : xs.length = ys.length) (h : ∀ i, i < xs.length → xs.getD i 0 = ys.getD i 0) : xs = ys := by
 apply List.ext_getElem hl
 intro i h1 h2
 have := h i h1
 rwa [getD_eq h1, getD_eq h2] at this
theorem take_eq {xs ys : List Int} {d : Nat} (hl : xs.length = ys.length) (hd : d ≤ xs.length) (h : ∀ i, i < d → xs.getD i 0 = ys.getD i 0) : xs.take d = ys.take d := by
 apply ext_getD (by simp [hl])
 intro i hi
 have hi2 : i < d := by simp at hi; omega
 rw [getD_take hi2, getD_take hi2, h i hi2]
theorem gV_div {B : Int} (hB : 0 < B) {zs : List Int} {d : Nat} (hd : d ≤ zs.length) (h : ∀ i, i < d → 0 ≤ zs.getD i 0 ∧ zs.getD i 0 < B) : gV B zs / B ^ d = gV B (zs.drop d) := by
 have hr := gV_range hB (zs := zs.take d) (fun i hi => by
  have hi2 : i < d := by simp at hi; omega
  rw [getD_take hi2]
  exact h i hi2)
 rw [List.length_take, Nat.min_eq_left hd] at hr
 have hp : 0 < B ^ d := Int.pow_pos hB
 rw [gV_cut B zs d hd, Int.add_mul_ediv_left _ _ (by omega), Int.ediv_eq_zero_of_lt hr.1 hr.2, Int.zero_add]
theorem Blk.seti {w : World} {c : Nat} {k : IntKind} {zs : List Int} {t : TypeId} (h : Blk w c (ints k zs) t) (i : Nat) (z : Int) : Blk (w.setCell ⟨c, i, none⟩ (.int k z)) c (ints k (zs.set i z)) t := by
 rw [← ints_set]
 exact h.set i _
theorem bytesN_getD : ∀ (n x i : Nat), i < n → ((bytesN n x).getD i 0).toNat = x / 256 ^ i % 256
 | 0, _, _, h => by omega
 | n + 1, x, 0, _ => by
  simp only [bytesN, List.getD_cons_zero, Nat.pow_zero, Nat.div_one]
  rw [UInt8.toNat_ofNat']
  omega
 | n + 1, x, i + 1, h => by
  simp only [bytesN, List.getD_cons_succ]
  rw [bytesN_getD n (x / 256) i (by omega), Nat.div_div_eq_div_mul, Nat.pow_succ, Nat.mul_comm 256]
def fill (n : Nat) (l : List UInt8) (k : Nat) : List UInt8 := l.take k ++ List.replicate (n - k) 0
theorem fill_zero (n : Nat) (l : List UInt8) : fill n l 0 = List.replicate n 0 := by simp [fill]
theorem fill_full {n : Nat} {l : List UInt8} (h : l.length = n) : fill n l n = l := by simp [fill, ← h]
theorem fill_length {n k : Nat} {l : List UInt8} (h : l.length = n) (hk : k ≤ n) : (fill n l k).length = n := by simp [fill]; omega
theorem fill_set {n k : Nat} {l : List UInt8} (h : l.length = n) (hk : k < n) : (fill n l k).set k (l.getD k 0) = fill n l (k + 1) := by
 unfold fill
 have e1 : (l.take k).length = k := by simp; omega
 have e2 : n - k = (n - (k + 1)) + 1 := by omega
 have hk2 : k < l.length := by omega
 have e3 : l.getD k 0 = l[k] := by simp [List.getD, hk2]
 rw [List.set_append_right _ _ (by omega), e1, Nat.sub_self, e2, List.replicate_succ, List.set_cons_zero, e3, List.take_succ_eq_append_getElem hk2, List.append_assoc]
 rfl
theorem fill_set_val {n k : Nat} {l : List UInt8} (h : l.length = n) (hk : k < n) {z : Int} (hz : z = ((l.getD k 0).toNat : Int)) : ((fill n l k).map bval).set k (.int .u8 z) = (fill n l (k + 1)).map bval := by
 subst hz
 have : Value.int .u8 ((l.getD k 0).toNat : Int) = bval (l.getD k 0) := rfl
 rw [this, ← List.map_set, fill_set h hk]
theorem fill_start (n : Nat) (l : List UInt8) : (fill n l 0).map bval = ints .u8 (List.replicate n 0) := by
 rw [fill_zero]
 simp [ints, bval]
theorem or_i64 (a b : Nat) (ha : a < 9223372036854775808) (hb : b < 9223372036854775808) : bits .or .i64 (a : Int) (b : Int) = ((a ||| b : Nat) : Int) := by
 have e1 : (BitVec.ofInt 64 (a : Int)).toNat = a := by rw [BitVec.toNat_ofInt]; omega
 have e2 : (BitVec.ofInt 64 (b : Int)).toNat = b := by rw [BitVec.toNat_ofInt]; omega
 show IntKind.i64.wrap ((BitVec.ofInt 64 (a : Int) ||| BitVec.ofInt 64 (b : Int)).toNat : Nat) = _
 have e3 : a ||| b < 2 ^ 63 := Nat.or_lt_two_pow ha hb
 rw [BitVec.toNat_or, e1, e2, IntKind.wrap_i64]
 omega
theorem leN_byteL (l : List UInt8) (i : Nat) (h : i < l.length) : (l.getD i 0).toNat = leN l / 256 ^ i % 256 := by
 have e := bytesN_leN l
 have h2 := bytesN_getD l.length (leN l) i h
 rw [e] at h2
 exact h2
theorem leN_top {l : List UInt8} (h : l.length = 32) (ht : (l.getD 31 0).toNat < 128) : leN l < 2 ^ 255 := by
 have h1 := leN_byteL l 31 (by omega)
 have h2 := leN_lt l
 rw [h] at h2
 have e : (256 : Nat) ^ 32 = 256 ^ 31 * 256 := by decide +kernel
 have h3 : leN l / 256 ^ 31 < 256 := (Nat.div_lt_iff_lt_mul (by decide)).2 (by rw [Nat.mul_comm, ← e]; exact h2)
 rw [Nat.mod_eq_of_lt h3] at h1
 rw [h1] at ht
 have h4 := (Nat.div_lt_iff_lt_mul (by decide)).1 ht
 have e2 : (128 : Nat) * 256 ^ 31 = 2 ^ 255 := by decide +kernel
 rw [e2] at h4
 exact h4
theorem u8_mask (b : UInt8) (h : b.toNat < 128) : b &&& 127 = b := by
 have hh : ∀ n : Fin 128, (UInt8.ofNat n.val) &&& 127 = UInt8.ofNat n.val := by decide +kernel
 have := hh ⟨b.toNat, h⟩
 simpa using this
theorem mask_id {l : List UInt8} (h : l.length = 32) (ht : (l.getD 31 0).toNat < 128) : maskB l = l := by
 unfold maskB
 rw [u8_mask _ ht]
 apply List.ext_getElem?
 intro i
 rw [List.getElem?_set]
 split
 ·rename_i e
  subst e
  rw [List.getD_eq_getElem?_getD, List.getElem?_eq_getElem (by omega)]
  simp [h]
 ·rfl
theorem nbF_top (f : Fp) : ((nbF f).getD 31 0).toNat < 128 := by
 unfold nbF
 rw [bytesN_getD 32 f.val 31 (by omega)]
 have h1 := f.isLt
 have h2 : f.val < 2 ^ 255 := Nat.lt_trans h1 (by decide +kernel)
 have e2 : (2 : Nat) ^ 255 = 128 * 256 ^ 31 := by decide +kernel
 rw [e2] at h2
 have h3 := (Nat.div_lt_iff_lt_mul (by decide : 0 < 256 ^ 31)).2 h2
 omega
abbrev Q64 := BitVec 64
def qi (b : Q64) : Int := (b.toNat : Int)
theorem qi_range (b : Q64) : 0 ≤ qi b ∧ qi b ≤ 18446744073709551615 := by
 have := b.isLt
 unfold qi
 omega
theorem ofInt_qi (b : Q64) : BitVec.ofInt 64 (qi b) = b := by
 unfold qi
 apply BitVec.eq_of_toNat_eq
 have := b.isLt
 rw [BitVec.toNat_ofInt]
 omega
theorem wrap_natq (n : Nat) : IntKind.u64.wrap (n : Int) = ((n % 18446744073709551616 : Nat) : Int) := by rw [IntKind.wrap_u64]; omega
theorem qi_lit (n : Nat) (h : n < 18446744073709551616) : qi (BitVec.ofNat 64 n) = (n : Int) := by
 unfold qi
 rw [BitVec.toNat_ofNat]
 omega
theorem qi_add (a b : Q64) : IntKind.u64.wrap (qi a + qi b) = qi (a + b) := by
 unfold qi
 rw [← Int.natCast_add, wrap_natq, BitVec.toNat_add]
theorem qi_and (a b : Q64) : bits .and .u64 (qi a) (qi b) = qi (a &&& b) := by
 show IntKind.u64.wrap ((BitVec.ofInt 64 (qi a) &&& BitVec.ofInt 64 (qi b)).toNat : Nat) = _
 rw [ofInt_qi, ofInt_qi, wrap_natq, Nat.mod_eq_of_lt (a &&& b).isLt]
 rfl
theorem qi_or (a b : Q64) : bits .or .u64 (qi a) (qi b) = qi (a ||| b) := by
 show IntKind.u64.wrap ((BitVec.ofInt 64 (qi a) ||| BitVec.ofInt 64 (qi b)).toNat : Nat) = _
 rw [ofInt_qi, ofInt_qi, wrap_natq, Nat.mod_eq_of_lt (a ||| b).isLt]
 rfl
theorem qi_xor (a b : Q64) : bits .xor .u64 (qi a) (qi b) = qi (a ^^^ b) := by
 show IntKind.u64.wrap ((BitVec.ofInt 64 (qi a) ^^^ BitVec.ofInt 64 (qi b)).toNat : Nat) = _
 rw [ofInt_qi, ofInt_qi, wrap_natq, Nat.mod_eq_of_lt (a ^^^ b).isLt]
 rfl
theorem qi_shr (a : Q64) (n : Nat) : qi a / 2 ^ n = qi (a >>> n) := by
 unfold qi
 rw [BitVec.toNat_ushiftRight, Nat.shiftRight_eq_div_pow]
 simp
theorem qi_shl (a : Q64) (n : Nat) : IntKind.u64.wrap (qi a * 2 ^ n) = qi (a <<< n) := by
 unfold qi
 have e : ((a.toNat : Int) * 2 ^ n) = ((a.toNat * 2 ^ n : Nat) : Int) := by simp
 rw [e, wrap_natq, BitVec.toNat_shiftLeft, Nat.shiftLeft_eq]
def rotq (a : Q64) (n : Nat) : Q64 := a >>> n ||| a <<< (64 - n)
def qs (l : List Q64) : List Int := l.map qi
theorem qs_length (l : List Q64) : (qs l).length = l.length := by simp [qs]
theorem qs_getD (l : List Q64) (i : Nat) : (qs l).getD i 0 = qi (l.getD i 0#64) := by
 unfold qs
 simp only [List.getD, List.getElem?_map]
 cases l[i]? <;> simp [qi]
theorem qs_set (l : List Q64) (i : Nat) (b : Q64) : (qs l).set i (qi b) = qs (l.set i b) := by
 unfold qs
 rw [List.map_set]
theorem qs_zeros (n : Nat) : qs (List.replicate n 0#64) = List.replicate n 0 := by simp [qs, qi]
abbrev W32 := BitVec 32
def wi (b : W32) : Int := (b.toNat : Int)
def ws (l : List W32) : List Int := l.map wi
def beB : Nat → Nat → List UInt8
 | 0, _ => []
 | k + 1, n => UInt8.ofNat (n / 256 ^ k % 256) :: beB k n
theorem beB_length : ∀ k n, (beB k n).length = k
 | 0, _ => rfl
 | k + 1, n => by simp [beB, beB_length k n]
def beN (m : List UInt8) (k : Nat) : Nat → Nat
 | 0 => 0
 | n + 1 => 256 * beN m k n + (m.getD (k + n) 0).toNat
theorem beN_lt (m : List UInt8) (k : Nat) : ∀ n, beN m k n < 256 ^ n
 | 0 => by simp [beN]
 | n + 1 => by
  have h1 := beN_lt m k n
  have h2 := (m.getD (k + n) 0).toNat_lt
  simp only [beN, Nat.pow_succ]
  omega
def beQ (m : List UInt8) (k : Nat) : Q64 := BitVec.ofNat 64 (beN m k 8)
def qTop (m : List UInt8) (start : Nat) : Nat → List Q64
 | 0 => List.replicate 80 0#64
 | k + 1 => (qTop m start k).set k (beQ m (start + 8 * k))
def tg0 (x : Q64) : Q64 := rotq x 1 ^^^ rotq x 8 ^^^ x >>> 7
def tg1 (x : Q64) : Q64 := rotq x 19 ^^^ rotq x 61 ^^^ x >>> 6
def qNext (l : List Q64) (i : Nat) : Q64 := l.getD (i - 16) 0#64 + tg0 (l.getD (i - 15) 0#64) + l.getD (i - 7) 0#64 + tg1 (l.getD (i - 2) 0#64)
def qSch (m : List UInt8) (start : Nat) : Nat → List Q64
 | 0 => qTop m start 16
 | n + 1 => (qSch m start n).set (16 + n) (qNext (qSch m start n) (16 + n))
theorem qTop_length (m : List UInt8) (start : Nat) : ∀ k, (qTop m start k).length = 80
 | 0 => by simp [qTop]
 | k + 1 => by simp [qTop, qTop_length m start k]
theorem qSch_length (m : List UInt8) (start : Nat) : ∀ k, (qSch m start k).length = 80
 | 0 => qTop_length m start 16
 | k + 1 => by simp [qSch, qSch_length m start k]
def rndq (v : List Q64) (k w : Q64) : List Q64 :=
 let e := v.getD 4 0#64
 let a := v.getD 0 0#64
 let t := v.getD 7 0#64 + (rotq e 14 ^^^ rotq e 18 ^^^ rotq e 41) + (e &&& v.getD 5 0#64 ^^^ ~~~e &&& v.getD 6 0#64) + k + w
 let u := (rotq a 28 ^^^ rotq a 34 ^^^ rotq a 39) + (a &&& v.getD 1 0#64 ^^^ a &&& v.getD 2 0#64 ^^^ v.getD 1 0#64 &&& v.getD 2 0#64)
 [t + u, a, v.getD 1 0#64, v.getD 2 0#64, v.getD 3 0#64 + t, e, v.getD 5 0#64, v.getD 6 0#64]
def K512 : List Q64 := [0x428a2f98d728ae22, 0x7137449123ef65cd, 0xb5c0fbcfec4d3b2f, 0xe9b5dba58189dbbc, 0x3956c25bf348b538, 0x59f111f1b605d019, 0x923f82a4af194f9b, 0xab1c5ed5da6d8118, 0xd807aa98a3030242, 0x12835b0145706fbe, 0x243185be4ee4b28c, 0x550c7dc3d5ffb4e2, 0x72be5d74f27b896f, 0x80deb1fe3b1696b1, 0x9bdc06a725c71235, 0xc19bf174cf692694, 0xe49b69c19ef14ad2, 0xefbe4786384f25e3, 0x0fc19dc68b8cd5b5, 0x240ca1cc77ac9c65, 0x2de92c6f592b0275, 0x4a7484aa6ea6e483, 0x5cb0a9dcbd41fbd4, 0x76f988da831153b5, 0x983e5152ee66dfab, 0xa831c66d2db43210, 0xb00327c898fb213f, 0xbf597fc7beef0ee4, 0xc6e00bf33da88fc2, 0xd5a79147930aa725, 0x06ca6351e003826f, 0x142929670a0e6e70, 0x27b70a8546d22ffc, 0x2e1b21385c26c926, 0x4d2c6dfc5ac42aed, 0x53380d139d95b3df, 0x650a73548baf63de, 0x766a0abb3c77b2a8, 0x81c2c92e47edaee6, 0x92722c851482353b, 0xa2bfe8a14cf10364, 0xa81a664bbc423001, 0xc24b8b70d0f89791, 0xc76c51a30654be30, 0xd192e819d6ef5218, 0xd69906245565a910, 0xf40e35855771202a, 0x106aa07032bbd1b8, 0x19a4c116b8d2d0c8, 0x1e376c085141ab53, 0x2748774cdf8eeb99, 0x34b0bcb5e19b48a8, 0x391c0cb3c5c95a63, 0x4ed8aa4ae3418acb, 0x5b9cca4f7763e373, 0x682e6ff3d6b2b8a3, 0x748f82ee5defb2fc, 0x78a5636f43172f60, 0x84c87814a1f0ab72, 0x8cc702081a6439ec, 0x90befffa23631e28, 0xa4506cebde82bde9, 0xbef9a3f7b2c67915, 0xc67178f2e372532b, 0xca273eceea26619c, 0xd186b8c721c0c207, 0xeada7dd6cde0eb1e, 0xf57d4f7fee6ed178, 0x06f067aa72176fba, 0x0a637dc5a2c898a6, 0x113f9804bef90dae, 0x1b710b35131c471b, 0x28db77f523047d84, 0x32caab7b40c72493, 0x3c9ebe0a15c9bebc, 0x431d67c49c100d4c, 0x4cc5d4becb3e42b6, 0x597f299cfc657e2a, 0x5fcb6fab3ad6faec, 0x6c44198c4a475817]
def H512 : List Q64 := [0x6a09e667f3bcc908, 0xbb67ae8584caa73b, 0x3c6ef372fe94f82b, 0xa54ff53a5f1d36f1, 0x510e527fade682d1, 0x9b05688c2b3e6c1f, 0x1f83d9abfb41bd6b, 0x5be0cd19137e2179]
def qRun (h w : List Q64) : Nat → List Q64
 | 0 => h
 | i + 1 => rndq (qRun h w i) (K512.getD i 0#64) (w.getD i 0#64)
theorem qRun_length (h w : List Q64) (hh : h.length = 8) : ∀ i, (qRun h w i).length = 8
 | 0 => hh
 | i + 1 => rfl
def qAdd (h v : List Q64) : Nat → List Q64
 | 0 => h
 | k + 1 => (qAdd h v k).set k ((qAdd h v k).getD k 0#64 + v.getD k 0#64)
theorem qAdd_length (h v : List Q64) : ∀ k, (qAdd h v k).length = h.length
 | 0 => rfl
 | k + 1 => by simp [qAdd, qAdd_length h v k]
def gRun (m : List UInt8) : Nat → List Q64
 | 0 => H512
 | n + 1 => qAdd (gRun m n) (qRun (gRun m n) (qSch m (128 * n) 64) 80) 8
theorem gRun_length (m : List UInt8) : ∀ n, (gRun m n).length = 8
 | 0 => rfl
 | n + 1 => by rw [gRun, qAdd_length, gRun_length m n]
def padQ (n : Nat) : Nat := (239 - n % 128) % 128
def paddedQ (b : List UInt8) : List UInt8 := b ++ [128] ++ List.replicate (padQ b.length) 0 ++ beB 16 (8 * b.length)
def outQ (h : List Q64) : List UInt8 := (List.range 64).map fun i => UInt8.ofNat ((h.getD (i / 8) 0#64).toNat / 2 ^ (56 - 8 * (i % 8)) % 256)
theorem outQ_length (h : List Q64) : (outQ h).length = 64 := by simp [outQ]
def sha512 (b : List UInt8) : List UInt8 := outQ (gRun (paddedQ b) ((b.length + 144) / 128))
theorem sha512_length (b : List UInt8) : (sha512 b).length = 64 := outQ_length _
def qQ : Int := 7237005577332262213973186563042994240857116359379907606001950938285454250989
def tT : Int := 27742317777372353535851937790883648493
theorem qQ_pos : 0 < qQ := by unfold qQ; omega
def cStep (x : List Int) (i : Nat) : List Int := (x.set (i + 1) (x.getD (i + 1) 0 + x.getD i 0 / 268435456)).set i (x.getD i 0 % 268435456)
def cRun (x : List Int) (f : Nat) : Nat → List Int
 | 0 => x
 | n + 1 => cStep (cRun x f n) (f + n)
structure CR (x y : List Int) (f n : Nat) (B : Int) : Prop where
 len : y.length = x.length
 val : gV 268435456 y = gV 268435456 x
 low : ∀ j, j < f → y.getD j 0 = x.getD j 0
 mid : ∀ j, f ≤ j → j < f + n → 0 ≤ y.getD j 0 ∧ y.getD j 0 < 268435456
 here : -(B + B / 32768 + 2) ≤ y.getD (f + n) 0 ∧ y.getD (f + n) 0 ≤ B + B / 32768 + 2
 high : ∀ j, f + n < j → y.getD j 0 = x.getD j 0
theorem cStep_spec {x y : List Int} {f n : Nat} {B : Int} (h : CR x y f n B) (hn : f + n + 1 < x.length) (h0 : 0 ≤ B) (hB : -B ≤ x.getD (f + n + 1) 0 ∧ x.getD (f + n + 1) 0 ≤ B) : CR x (cStep y (f + n)) f (n + 1) B := by
 obtain ⟨h1, h2, h3, h4, h5, h6⟩ := h
 have hi := h6 (f + n + 1) (by omega)
 unfold cStep
 refine ⟨by simp [h1], ?_, fun j hj => ?_, fun j hj hj2 => ?_, ?_, fun j hj => ?_⟩
 ·rw [gV_set _ _ _ _ (by simp; omega), gV_set _ _ _ _ (by omega), getD_set_far (by omega), h2, Int.pow_succ]
  have e := Int.mul_ediv_add_emod (y.getD (f + n) 0) 268435456
  generalize (268435456 : Int) ^ (f + n) = X
  generalize y.getD (f + n) 0 / 268435456 = a at *
  generalize y.getD (f + n) 0 % 268435456 = b at *
  rw [← e]
  grind
 ·rw [getD_set_far (by omega), getD_set_far (by omega)]
  exact h3 j hj
 ·by_cases e : j = f + n
  ·subst e
   rw [getD_set_same (by simp; omega)]
   omega
  ·rw [getD_set_far (by omega), getD_set_far (by omega)]
   exact h4 j hj (by omega)
 ·rw [show f + (n + 1) = f + n + 1 from rfl, getD_set_far (by omega), getD_set_same (by omega), hi]
  omega
 ·rw [getD_set_far (by omega), getD_set_far (by omega)]
  exact h6 j (by omega)
theorem cRun_spec (x : List Int) (f : Nat) (B : Int) (h0 : 0 ≤ B) : ∀ n, f + n < x.length → (∀ j, f ≤ j → j ≤ f + n → -B ≤ x.getD j 0 ∧ x.getD j 0 ≤ B) → CR x (cRun x f n) f n B
 | 0, hn, hB => ⟨rfl, rfl, fun j _ => rfl, fun j _ _ => by omega, by have := hB f (by omega) (by omega); simp only [cRun, Nat.add_zero]; omega, fun j _ => rfl⟩
 | n + 1, hn, hB => cStep_spec (cRun_spec x f B h0 n (by omega) (fun j h1 h2 => hB j h1 (by omega))) hn h0 (hB (f + n + 1) (by omega) (by omega))
def lStep (x : List Int) (i : Nat) (b : Nat) : List Int := x.set (8 * i / 28) (x.getD (8 * i / 28) 0 + (b : Int) * 2 ^ (8 * i % 28))
def lRun (l : List UInt8) : Nat → List Int
 | 0 => List.replicate 19 0
 | k + 1 => lStep (lRun l k) k (l.getD k 0).toNat
theorem lRun_length (l : List UInt8) : ∀ k, (lRun l k).length = 19
 | 0 => by simp [lRun]
 | k + 1 => by simp [lRun, lStep, lRun_length l k]
theorem pow28 (s : Nat) (h : s < 28) : (2 : Int) ^ s ≤ 134217728 ∧ 0 < (2 : Int) ^ s := by
 have h1 : (2 : Int) ^ s ≤ 2 ^ 27 := by
  have : (2 : Nat) ^ s ≤ 2 ^ 27 := Nat.pow_le_pow_right (by omega) (by omega)
  have e : ((2 : Int) ^ s) = ((2 ^ s : Nat) : Int) := by simp
  have e2 : ((2 : Int) ^ 27) = ((2 ^ 27 : Nat) : Int) := by simp
  rw [e, e2]
  omega
 exact ⟨by simpa using h1, Int.pow_pos (by omega)⟩
theorem byte_pow (b s : Nat) (hb : b < 256) (h : s < 28) : 0 ≤ (b : Int) * 2 ^ s ∧ (b : Int) * 2 ^ s ≤ 34225520640 := by
 obtain ⟨h1, h2⟩ := pow28 s h
 refine ⟨Int.mul_nonneg (by omega) (by omega), ?_⟩
 exact Int.le_trans (Int.mul_le_mul (show (b : Int) ≤ 255 by omega) h1 (by omega) (by omega)) (by omega)
theorem lRun_range (l : List UInt8) : ∀ k, k ≤ 64 → ∀ j, 0 ≤ (lRun l k).getD j 0 ∧ (lRun l k).getD j 0 ≤ (k : Int) * 34225520640
 | 0, _, j => by
  simp only [lRun, List.getD, List.getElem?_replicate]
  split <;> simp
 | k + 1, hk, j => by
  have ih := lRun_range l k (by omega)
  have hb := byte_pow (l.getD k 0).toNat (8 * k % 28) (UInt8.toNat_lt _) (by omega)
  simp only [lRun, lStep]
  by_cases e : 8 * k / 28 = j
  ·subst e
   rw [getD_set_same (by rw [lRun_length]; omega)]
   have := ih (8 * k / 28)
   omega
  ·rw [getD_set_far e]
   have := ih j
   omega
theorem leN_take_succ : ∀ (l : List UInt8) (k : Nat), k < l.length → leN (l.take (k + 1)) = leN (l.take k) + (l.getD k 0).toNat * 256 ^ k
 | [], k, h => by simp at h
 | b :: r, 0, h => by simp [leN]
 | b :: r, k + 1, h => by
  have := leN_take_succ r k (by simpa using h)
  simp only [List.take_succ_cons, leN, List.getD_cons_succ, Nat.pow_succ] at this ⊢
  rw [this]
  grind
theorem pow_split (k : Nat) : (268435456 : Int) ^ (8 * k / 28) * 2 ^ (8 * k % 28) = 256 ^ k := by
 have e1 : (268435456 : Int) = 2 ^ 28 := by omega
 have e2 : (256 : Int) = 2 ^ 8 := by omega
 rw [e1, e2, ← Int.pow_mul, ← Int.pow_mul, ← Int.pow_add]
 congr 1
 omega
theorem lRun_val (l : List UInt8) : ∀ k, k ≤ l.length → k ≤ 64 → gV 268435456 (lRun l k) = ((leN (l.take k) : Nat) : Int)
 | 0, _, _ => by
  rw [List.take_zero]
  exact gV_zeros _ 19
 | k + 1, hk, h64 => by
  simp only [lRun, lStep]
  rw [gV_set _ _ _ _ (by rw [lRun_length]; omega), lRun_val l k (by omega) (by omega), leN_take_succ l k (by omega)]
  have e := pow_split k
  simp only [Int.natCast_add, Int.natCast_mul, Int.natCast_pow]
  rw [show ((256 : Nat) : Int) = 256 from rfl, ← e]
  generalize (268435456 : Int) ^ (8 * k / 28) = X
  generalize (2 : Int) ^ (8 * k % 28) = Y
  grind
def hQ : Int := 268435456 ^ 18 * 256
theorem hQ_nat : hQ = ((256 ^ 64 : Nat) : Int) := by decide +kernel
theorem leN_hQ (l : List UInt8) (h : l.length ≤ 64) : (leN l : Int) < hQ := by
 have h1 := leN_lt l
 have h2 : 256 ^ l.length ≤ 256 ^ 64 := Nat.pow_le_pow_right (by omega) h
 rw [hQ_nat]
 exact Int.ofNat_lt.2 (Nat.lt_of_lt_of_le h1 h2)
structure Can (y : List Int) (v : Int) : Prop where
 len : y.length = 19
 val : gV 268435456 y = v
 low : ∀ j, j < 18 → 0 ≤ y.getD j 0 ∧ y.getD j 0 < 268435456
 top : 0 ≤ y.getD 18 0 ∧ y.getD 18 0 < 256
theorem carry_can {x : List Int} {v B : Int} (hl : x.length = 19) (h0 : 0 ≤ B) (hB : ∀ j, j < 19 → -B ≤ x.getD j 0 ∧ x.getD j 0 ≤ B) (hv : gV 268435456 x = v) (v0 : 0 ≤ v) (v1 : v < hQ) : Can (cRun x 0 18) v := by
 obtain ⟨h1, h2, h3, h4, h5, h6⟩ := cRun_spec x 0 B h0 18 (by omega) (fun j _ hj => hB j (by omega))
 have hlo : ∀ j, j < 18 → 0 ≤ (cRun x 0 18).getD j 0 ∧ (cRun x 0 18).getD j 0 < 268435456 := fun j hj => h4 j (by omega) (by omega)
 refine ⟨by omega, by rw [h2, hv], hlo, ?_⟩
 have hd := gV_div (B := 268435456) (by omega) (zs := cRun x 0 18) (d := 18) (by omega) hlo
 have e : gV 268435456 ((cRun x 0 18).drop 18) = (cRun x 0 18).getD 18 0 := by
  have hlen : ((cRun x 0 18).drop 18).length = 1 := by simp; omega
  match hq : (cRun x 0 18).drop 18, hlen with
  | [z], _ =>
   have : ((cRun x 0 18).drop 18).getD 0 0 = z := by rw [hq]; rfl
   rw [getD_drop] at this
   simp only [gV, this]
   omega
 rw [e, h2, hv] at hd
 rw [← hd]
 have e4 : (0 : Int) < 268435456 ^ 18 := Int.pow_pos (by omega)
 unfold hQ at v1
 generalize (268435456 : Int) ^ 18 = X at *
 exact ⟨Int.ediv_nonneg v0 (by omega), Int.ediv_lt_of_lt_mul e4 (by rw [Int.mul_comm]; exact v1)⟩
def TAIL : List Int := [217437165, 19280293, 127719000, 262007343, 5342]
theorem gV_tail : gV 268435456 TAIL = tT := by decide +kernel
theorem TAIL_getD (j : Nat) : 0 ≤ TAIL.getD j 0 ∧ TAIL.getD j 0 < 268435456 := by
 rcases (by omega : j = 0 ∨ j = 1 ∨ j = 2 ∨ j = 3 ∨ j = 4 ∨ 5 ≤ j) with rfl | rfl | rfl | rfl | rfl | h
 ·decide
 ·decide
 ·decide
 ·decide
 ·decide
 ·rw [getD_out (by simpa [TAIL] using h)]
  omega
def scl_tRun (x : List Int) (i : Nat) : Nat → List Int
 | 0 => x
 | n + 1 => (scl_tRun x i n).set (i - 9 + n) ((scl_tRun x i n).getD (i - 9 + n) 0 - (scl_tRun x i n).getD i 0 * TAIL.getD n 0)
theorem tRun_length (x : List Int) (i : Nat) : ∀ n, (scl_tRun x i n).length = x.length
 | 0 => rfl
 | n + 1 => by simp [scl_tRun, tRun_length x i n]
theorem tRun_far (x : List Int) (i : Nat) : ∀ n j, (j < i - 9 ∨ i - 9 + n ≤ j) → (scl_tRun x i n).getD j 0 = x.getD j 0
 | 0, _, _ => rfl
 | n + 1, j, h => by
  simp only [scl_tRun]
  rw [getD_set_far (by omega)]
  exact tRun_far x i n j (by omega)
theorem tRun_top (x : List Int) (i : Nat) (hi : 9 ≤ i) : ∀ n, n ≤ 5 → (scl_tRun x i n).getD i 0 = x.getD i 0 := fun n hn => tRun_far x i n i (by omega)
theorem tRun_in (x : List Int) (i : Nat) (hi : 9 ≤ i) (hx : i < x.length) : ∀ n j, n ≤ 5 → i - 9 ≤ j → j < i - 9 + n → (scl_tRun x i n).getD j 0 = x.getD j 0 - x.getD i 0 * TAIL.getD (j - (i - 9)) 0
 | 0, j, _, h1, h2 => by omega
 | n + 1, j, hn, h1, h2 => by
  simp only [scl_tRun]
  by_cases e : j = i - 9 + n
  ·subst e
   rw [getD_set_same (by rw [tRun_length]; omega), tRun_top x i hi n (by omega), tRun_far x i n _ (by omega), Nat.add_sub_cancel_left]
  ·rw [getD_set_far (by omega)]
   exact tRun_in x i hi hx n j (by omega) h1 (by omega)
theorem tRun_val (x : List Int) (i : Nat) (hi : 9 ≤ i) (hx : i < x.length) : ∀ n, n ≤ 5 → gV 268435456 (scl_tRun x i n) = gV 268435456 x - x.getD i 0 * gV 268435456 (TAIL.take n) * 268435456 ^ (i - 9)
 | 0, _ => by simp [scl_tRun, gV]
 | n + 1, hn => by
  simp only [scl_tRun]
  rw [gV_set _ _ _ _ (by rw [tRun_length]; omega), tRun_val x i hi hx n (by omega), tRun_top x i hi n (by omega), gV_take_succ _ TAIL n (by simp [TAIL]; omega), Int.pow_add]
  generalize (scl_tRun x i n).getD (i - 9 + n) 0 = a
  generalize (268435456 : Int) ^ (i - 9) = X
  generalize (268435456 : Int) ^ n = Y
  generalize gV 268435456 (TAIL.take n) = T
  generalize x.getD i 0 = u
  generalize TAIL.getD n 0 = t
  grind
def rStep (x : List Int) (i : Nat) : List Int := cRun ((scl_tRun x i 5).set i 0) (i - 9) 8
structure RI (x : List Int) (i : Nat) (v : Int) : Prop where
 len : x.length = 19
 cong : ∃ k, gV 268435456 x = v + qQ * k
 low : ∀ j, j < i → 0 ≤ x.getD j 0 ∧ x.getD j 0 < 268435456
 here : -1 ≤ x.getD i 0 ∧ x.getD i 0 ≤ 268435456
 high : ∀ j, i < j → x.getD j 0 = 0
theorem RI.start {y : List Int} {v : Int} (h : Can y v) : RI y 18 v := by
 obtain ⟨h1, h2, h3, h4⟩ := h
 exact ⟨h1, ⟨0, by omega⟩, h3, by omega, fun j hj => getD_out (by omega)⟩
theorem RI.part {x : List Int} {i : Nat} {v : Int} (h : RI x i v) (hi : 9 ≤ i) (hi2 : i ≤ 18) :
  (∀ j, j < 19 → -1152921504606846976 ≤ ((scl_tRun x i 5).set i 0).getD j 0 ∧ ((scl_tRun x i 5).set i 0).getD j 0 ≤ 1152921504606846976) ∧
  gV 268435456 ((scl_tRun x i 5).set i 0) = gV 268435456 x - x.getD i 0 * qQ * 268435456 ^ (i - 9) := by
 obtain ⟨h1, h2, h3, h4, h5⟩ := h
 refine ⟨fun j hj => ?_, ?_⟩
 ·by_cases e : j = i
  ·subst e
   rw [getD_set_same (by rw [tRun_length]; omega)]
   omega
  ·rw [getD_set_far (by omega)]
   have hj2 : 0 ≤ x.getD j 0 ∧ x.getD j 0 < 268435456 := by
    rcases Nat.lt_or_ge j i with g | g
    ·exact h3 j g
    ·rw [h5 j (by omega)]; omega
   by_cases g : i - 9 ≤ j ∧ j < i - 9 + 5
   ·rw [tRun_in x i hi (by omega) 5 j (by omega) g.1 g.2]
    have ht := TAIL_getD (j - (i - 9))
    generalize TAIL.getD (j - (i - 9)) 0 = t at *
    generalize x.getD i 0 = u at *
    generalize x.getD j 0 = z at *
    have b1 : u * t ≤ 268435456 * 268435456 := by
     rcases Int.le_total 0 u with g2 | g2
     ·exact Int.mul_le_mul h4.2 (by omega) (by omega) (by omega)
     ·have : u * t ≤ 0 := Int.mul_nonpos_of_nonpos_of_nonneg g2 ht.1
      omega
    have b2 : -268435456 ≤ u * t := by
     rcases Int.le_total 0 u with g2 | g2
     ·have := Int.mul_nonneg g2 ht.1
      omega
     ·have e1 : u = 0 ∨ u = -1 := by omega
      rcases e1 with rfl | rfl <;> omega
    omega
   ·rw [tRun_far x i 5 j (by omega)]
    omega
 ·rw [gV_set _ _ _ _ (by rw [tRun_length]; omega), tRun_val x i hi (by omega) 5 (by omega), tRun_top x i hi 5 (by omega)]
  have e1 : gV 268435456 (TAIL.take 5) = tT := gV_tail
  have e2 : (268435456 : Int) ^ i = 268435456 ^ 9 * 268435456 ^ (i - 9) := by rw [← Int.pow_add]; congr 1; omega
  have e3 : qQ = 268435456 ^ 9 + tT := by decide +kernel
  rw [e1, e2, e3]
  generalize (268435456 : Int) ^ (i - 9) = X
  generalize (268435456 : Int) ^ 9 = Y
  generalize x.getD i 0 = u
  grind
theorem gV_ends {B : Int} (hB : 0 < B) {u : List Int} {n : Nat} (hn : n < u.length) (h : ∀ j, j < n → 0 ≤ u.getD j 0 ∧ u.getD j 0 < B) (hz : ∀ j, n < j → u.getD j 0 = 0) :
  ∃ l, 0 ≤ l ∧ l < B ^ n ∧ gV B u = l + B ^ n * u.getD n 0 := by
 have hr := gV_range hB (zs := u.take n) (fun i hi => by
  have hi2 : i < n := by simp at hi; omega
  rw [getD_take hi2]
  exact h i hi2)
 rw [List.length_take, Nat.min_eq_left (by omega)] at hr
 refine ⟨gV B (u.take n), hr.1, hr.2, ?_⟩
 rw [gV_cut B u n (by omega)]
 congr 2
 have hd : u.drop n = u.getD n 0 :: u.drop (n + 1) := by
  rw [List.drop_eq_getElem_cons hn, getD_eq hn]
 rw [hd, gV, gV_zero_of B (zs := u.drop (n + 1)) (fun i => by rw [getD_drop]; exact hz _ (by omega))]
 omega
theorem RI.step {x : List Int} {i : Nat} {v : Int} (h : RI x i v) (hi : 9 ≤ i) (hi2 : i ≤ 18) :
  RI (rStep x i) (i - 1) v ∧ -qQ < gV 268435456 ((rStep x i).drop (i - 9)) ∧ gV 268435456 ((rStep x i).drop (i - 9)) < qQ := by
 obtain ⟨p1, p2⟩ := h.part hi hi2
 obtain ⟨h1, ⟨k, h2⟩, h3, h4, h5⟩ := h
 have hlen : ((scl_tRun x i 5).set i 0).length = 19 := by simp [tRun_length, h1]
 have hC := cRun_spec ((scl_tRun x i 5).set i 0) (i - 9) 1152921504606846976 (by omega) 8 (by omega) (fun j _ hj => p1 j (by omega))
 change CR _ (rStep x i) (i - 9) 8 _ at hC
 obtain ⟨c1, c2, c3, c4, c5, c6⟩ := hC
 generalize rStep x i = y at *
 have yl : y.length = 19 := by omega
 have hlow : ∀ j, j < i - 1 → 0 ≤ y.getD j 0 ∧ y.getD j 0 < 268435456 := by
  intro j hj
  rcases Nat.lt_or_ge j (i - 9) with g | g
  ·rw [c3 j g, getD_set_far (by omega), tRun_far x i 5 j (by omega)]
   exact h3 j (by omega)
  ·exact c4 j g (by omega)
 have hhigh : ∀ j, i - 1 < j → y.getD j 0 = 0 := by
  intro j hj
  rw [c6 j (by omega)]
  by_cases e : j = i
  ·subst e
   rw [getD_set_same (by rw [tRun_length]; omega)]
  ·rw [getD_set_far (by omega), tRun_far x i 5 j (by omega)]
   exact h5 j (by omega)
 have ht : y.take (i - 9) = x.take (i - 9) := by
  refine take_eq (by omega) (by omega) (fun j hj => ?_)
  rw [c3 j hj, getD_set_far (by omega), tRun_far x i 5 j (by omega)]
 have e1 := gV_cut 268435456 y (i - 9) (by omega)
 have e2 := gV_cut 268435456 x (i - 9) (by omega)
 obtain ⟨lx, l1, l2, l3⟩ := gV_ends (B := 268435456) (by omega) (u := x.drop (i - 9)) (n := 9) (by simp; omega) (fun j hj => by rw [getD_drop]; exact h3 _ (by omega)) (fun j hj => by rw [getD_drop]; exact h5 _ (by omega))
 obtain ⟨ly, m1, m2, m3⟩ := gV_ends (B := 268435456) (by omega) (u := y.drop (i - 9)) (n := 8) (by simp; omega) (fun j hj => by rw [getD_drop]; exact hlow _ (by omega)) (fun j hj => by rw [getD_drop]; exact hhigh _ (by omega))
 rw [getD_drop, show i - 9 + 9 = i from by omega] at l3
 rw [getD_drop, show i - 9 + 8 = i - 1 from by omega] at m3
 have hX : 0 < (268435456 : Int) ^ (i - 9) := Int.pow_pos (by omega)
 have e3 : gV 268435456 (y.drop (i - 9)) = gV 268435456 (x.drop (i - 9)) - x.getD i 0 * qQ := by
  rw [ht] at e1
  rw [c2, p2, e2] at e1
  generalize (268435456 : Int) ^ (i - 9) = X at *
  refine Int.eq_of_mul_eq_mul_left (by omega : X ≠ 0) ?_
  rw [Int.mul_sub]
  have : X * (x.getD i 0 * qQ) = x.getD i 0 * qQ * X := Int.mul_comm _ _
  omega
 have hq : qQ = 268435456 ^ 9 + tT := by decide +kernel
 have hw : -qQ < gV 268435456 (y.drop (i - 9)) ∧ gV 268435456 (y.drop (i - 9)) < qQ ∧ -1 ≤ y.getD (i - 1) 0 ∧ y.getD (i - 1) 0 ≤ 268435456 := by
  have n9 : (268435456 : Int) ^ 9 = 7237005577332262213973186563042994240829374041602535252466099000494570602496 := by decide +kernel
  have n8 : (268435456 : Int) ^ 8 = 26959946667150639794667015087019630673637144422540572481103610249216 := by decide +kernel
  rw [l3] at e3
  rw [hq] at e3 ⊢
  rw [e3] at m3 ⊢
  rw [n9] at *
  rw [n8] at *
  unfold tT at *
  clear e1 e2 p2 c2 h2 hX
  generalize x.getD i 0 = u at *
  generalize y.getD (i - 1) 0 = z at *
  omega
 refine ⟨⟨yl, ⟨k - x.getD i 0 * 268435456 ^ (i - 9), ?_⟩, hlow, ⟨hw.2.2.1, hw.2.2.2⟩, hhigh⟩, hw.1, hw.2.1⟩
 rw [c2, p2, h2]
 generalize (268435456 : Int) ^ (i - 9) = X
 generalize x.getD i 0 = u
 generalize qQ = Q
 grind
def scl_rRun (x : List Int) : Nat → List Int
 | 0 => x
 | n + 1 => rStep (scl_rRun x n) (18 - n)
theorem rRun_RI {x : List Int} {v : Int} (h : RI x 18 v) : ∀ n, n ≤ 10 → RI (scl_rRun x n) (18 - n) v
 | 0, _ => h
 | n + 1, hn => by
  have := ((rRun_RI h n (by omega)).step (by omega) (by omega)).1
  rwa [show 18 - n - 1 = 18 - (n + 1) from by omega] at this
theorem rRun_end {x : List Int} {v : Int} (h : RI x 18 v) : -qQ < gV 268435456 (scl_rRun x 10) ∧ gV 268435456 (scl_rRun x 10) < qQ :=
 ((rRun_RI h 9 (by omega)).step (by omega) (by omega)).2
def aRun (x : List Int) (s : Int) : Nat → List Int
 | 0 => x
 | n + 1 => (aRun x s n).set n ((aRun x s n).getD n 0 + s * TAIL.getD n 0)
theorem aRun_length (x : List Int) (s : Int) : ∀ n, (aRun x s n).length = x.length
 | 0 => rfl
 | n + 1 => by simp [aRun, aRun_length x s n]
theorem aRun_far (x : List Int) (s : Int) : ∀ n j, n ≤ j → (aRun x s n).getD j 0 = x.getD j 0
 | 0, _, _ => rfl
 | n + 1, j, h => by
  simp only [aRun]
  rw [getD_set_far (by omega)]
  exact aRun_far x s n j (by omega)
theorem aRun_in (x : List Int) (s : Int) : ∀ n j, n ≤ x.length → j < n → (aRun x s n).getD j 0 = x.getD j 0 + s * TAIL.getD j 0
 | 0, j, _, h => by omega
 | n + 1, j, hn, h => by
  simp only [aRun]
  by_cases e : j = n
  ·subst e
   rw [getD_set_same (by rw [aRun_length]; omega), aRun_far x s j j (by omega)]
  ·rw [getD_set_far (by omega)]
   exact aRun_in x s n j (by omega) (by omega)
theorem aRun_val (x : List Int) (s : Int) : ∀ n, n ≤ 5 → n ≤ x.length → gV 268435456 (aRun x s n) = gV 268435456 x + s * gV 268435456 (TAIL.take n)
 | 0, _, _ => by simp [aRun, gV]
 | n + 1, hn, hl => by
  simp only [aRun]
  rw [gV_set _ _ _ _ (by rw [aRun_length]; omega), aRun_val x s n (by omega) (by omega), gV_take_succ _ TAIL n (by simp [TAIL]; omega)]
  generalize (aRun x s n).getD n 0 = a
  generalize (268435456 : Int) ^ n = Y
  generalize gV 268435456 (TAIL.take n) = T
  generalize TAIL.getD n 0 = t
  grind
def sgn (x : List Int) : Int := if x.getD 8 0 < 0 then 1 else 0
def addQ (x : List Int) : List Int := (aRun x (sgn x) 5).set 8 ((aRun x (sgn x) 5).getD 8 0 + sgn x * 268435456)
def restF (x : List Int) : List Int := cRun (addQ (scl_rRun x 10)) 0 8
structure Fin9 (y : List Int) (v : Int) : Prop where
 len : y.length = 19
 val : gV 268435456 y = v
 low : ∀ j, j < 8 → 0 ≤ y.getD j 0 ∧ y.getD j 0 < 268435456
 here : 0 ≤ y.getD 8 0 ∧ y.getD 8 0 ≤ 268435456
 high : ∀ j, 8 < j → y.getD j 0 = 0
theorem sgn_01 (x : List Int) : sgn x = 0 ∨ sgn x = 1 := by unfold sgn; split <;> simp
theorem addQ_range {x : List Int} {v : Int} (h : RI x 8 v) : (addQ x).length = 19 ∧ (∀ j, j < 19 → -1152921504606846976 ≤ (addQ x).getD j 0 ∧ (addQ x).getD j 0 ≤ 1152921504606846976) ∧ gV 268435456 (addQ x) = gV 268435456 x + sgn x * qQ ∧ (∀ j, 8 < j → (addQ x).getD j 0 = 0) := by
 obtain ⟨h1, h2, h3, h4, h5⟩ := h
 have hs := sgn_01 x
 unfold addQ
 generalize sgn x = s at *
 refine ⟨by simp [aRun_length, h1], fun j hj => ?_, ?_, fun j hj => ?_⟩
 ·by_cases e : j = 8
  ·subst e
   rw [getD_set_same (by rw [aRun_length]; omega), aRun_far x s 5 8 (by omega)]
   rcases hs with rfl | rfl <;> omega
  ·rw [getD_set_far (by omega)]
   have hj2 : 0 ≤ x.getD j 0 ∧ x.getD j 0 < 268435456 := by
    rcases Nat.lt_or_ge j 8 with g | g
    ·exact h3 j g
    ·rw [h5 j (by omega)]; omega
   by_cases g : j < 5
   ·rw [aRun_in x s 5 j (by omega) g]
    have ht := TAIL_getD j
    rcases hs with rfl | rfl <;> omega
   ·rw [aRun_far x s 5 j (by omega)]
    omega
 ·rw [gV_set _ _ _ _ (by rw [aRun_length]; omega), aRun_val x s 5 (by omega) (by omega)]
  have e1 : gV 268435456 (TAIL.take 5) = tT := gV_tail
  have e3 : qQ = 268435456 * 268435456 ^ 8 + tT := by decide +kernel
  rw [e1, e3]
  generalize (268435456 : Int) ^ 8 = Y
  generalize (aRun x s 5).getD 8 0 = a
  grind
 ·rw [getD_set_far (by omega), aRun_far x s 5 j (by omega)]
  exact h5 j hj
theorem restF_spec {x : List Int} {v : Int} (h : RI x 18 v) : Fin9 (restF x) (v % qQ) := by
 have hR := rRun_RI h 10 (by omega)
 obtain ⟨q1, q2⟩ := rRun_end h
 unfold restF
 generalize scl_rRun x 10 = y at *
 change RI y 8 v at hR
 obtain ⟨a1, a2, a3, a4⟩ := addQ_range hR
 obtain ⟨h1, ⟨k, h2⟩, h3, h4, h5⟩ := hR
 obtain ⟨l, l1, l2, l3⟩ := gV_ends (B := 268435456) (by omega) (u := y) (n := 8) (by omega) h3 h5
 have hv : 0 ≤ gV 268435456 (addQ y) ∧ gV 268435456 (addQ y) < qQ := by
  have n8 : (268435456 : Int) ^ 8 = 26959946667150639794667015087019630673637144422540572481103610249216 := by decide +kernel
  rw [a3]
  rw [n8] at l2 l3
  unfold sgn
  generalize y.getD 8 0 = u at *
  generalize gV 268435456 y = V at *
  split
  ·omega
  ·omega
 have hmod : gV 268435456 (addQ y) = v % qQ := by
  rw [← Int.emod_eq_of_lt hv.1 hv.2, a3, h2]
  rw [show v + qQ * k + sgn y * qQ = v + qQ * (k + sgn y) from by grind, Int.add_mul_emod_self_left]
 obtain ⟨c1, c2, c3, c4, c5, c6⟩ := cRun_spec (addQ y) 0 1152921504606846976 (by omega) 8 (by omega) (fun j _ hj => a2 j (by omega))
 generalize cRun (addQ y) 0 8 = z at *
 have hlow : ∀ j, j < 8 → 0 ≤ z.getD j 0 ∧ z.getD j 0 < 268435456 := fun j hj => c4 j (by omega) (by omega)
 have hhigh : ∀ j, 8 < j → z.getD j 0 = 0 := fun j hj => by rw [c6 j (by omega)]; exact a4 j hj
 obtain ⟨m, m1, m2, m3⟩ := gV_ends (B := 268435456) (by omega) (u := z) (n := 8) (by omega) hlow hhigh
 refine ⟨by omega, by rw [c2, hmod], hlow, ?_, hhigh⟩
 rw [c2] at m3
 have n8 : (268435456 : Int) ^ 8 = 26959946667150639794667015087019630673637144422540572481103610249216 := by decide +kernel
 rw [n8] at m2 m3
 unfold qQ at hv
 generalize z.getD 8 0 = u at *
 omega
end Go.Proofs.YtckggbkoabmjiaaDoor
