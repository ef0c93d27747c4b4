/- Texts that belong together, one behind the other. -/
import Derived.WalkKit
import Derived.WalkSpells
import Derived.WalkLawsBesides
import Derived.Lib.Hide
import Derived.Deep.QuietTactic
import Derived.BigQuiet
import Derived.Deep.RegionHeld3
import Derived.Deep.AppendLies
import Derived.OneCell
import Derived.ProofKit
import Derived.Deep.Slices
import Derived.Laws.Cover2
import Derived.OpenShut
import Derived.Test.YtimmnieopifcbaaDoorRows
import Derived.Deep.MidRow
import Derived.LaidMore
import Derived.Stop.Joined
import Derived.SevenTiedAt
import Derived.Deep.Quiet
import Derived.OrdersHeld
import Derived.Deep.RegionHeld
import Derived.ChangeKeysEq
import Derived.Laws.ResultCell
import Derived.Deep.CutRange
import Derived.Deep.RegionWith
import Derived.StillTailTactics
import Derived.ScopeJumps
import Derived.Control
import Derived.WalkMore
import Derived.KernelRfl
namespace Go.Proofs.YtimmnieopifcbaaDoor
set_option linter.unusedVariables false
set_option linter.unusedSimpArgs false
open Go.RowKit
theorem nrm {α : Type} : (∀ (l : List α) (i : Nat) (h : i < l.toArray.size), l.toArray[i] = l[i]'(by simpa using h)) ∧ (∀ (a : α) (l : List α) (h : 0 < (a :: l).length), (a :: l)[0] = a) ∧ (∀ (a : α) (l : List α) (i : Nat) (h : i + 1 < (a :: l).length), (a :: l)[i + 1] = l[i]'(by simpa using h)) ∧
  (∀ (l : List α) (i : Nat) (a : α), l.toArray.setIfInBounds i a = (l.set i a).toArray) ∧ (∀ (a b : α) (l : List α), (a :: l).set 0 b = b :: l) ∧ (∀ (a b : α) (l : List α) (i : Nat), (a :: l).set (i + 1) b = a :: l.set i b) :=
 ⟨fun _ _ _ => by simp, fun _ _ _ => rfl, fun _ _ _ _ => rfl, fun _ _ _ => by simp, fun _ _ _ => rfl, fun _ _ _ _ => rfl⟩
section
def Row1 (w : World) (v : Value) (vs : List Value) : Prop :=
 ∃ a cap, v = .slice a vs.length cap ∧ vs.length ≤ cap ∧ cap ≤ maxLen ∧ (a = none → cap = 0) ∧ (vs ≠ [] → ∃ b off, a = some ⟨b, off, none⟩ ∧ b < w.heap.size ∧ ∀ i, i < vs.length → w.cell? ⟨b, off + i, none⟩ = vs[i]?)
section
variable {P : Program} {w w' : World} {v : Value} {vs : List Value}
theorem Row1.nil (w : World) : Row1 w (.slice none 0 0) [] := ⟨none, 0, rfl, Nat.le_refl _, Nat.zero_le _, fun _ => rfl, fun h => absurd rfl h⟩
theorem Row1.same (h : Row1 w v vs) (hs : w.heap.size ≤ w'.heap.size) (hc : ∀ p : Addr, v.ownBlock = some p.block → p.block < w.heap.size → w'.cell? p = w.cell? p) : Row1 w' v vs := by
 obtain ⟨a, cap, rfl, h1, h2, h3, h4⟩ := h
 refine ⟨a, cap, rfl, h1, h2, h3, fun hne => ?_⟩
 obtain ⟨b, off, rfl, hb, hcell⟩ := h4 hne
 exact ⟨b, off, rfl, Nat.lt_of_lt_of_le hb hs, fun i hi => (hc ⟨b, off + i, none⟩ rfl hb).trans (hcell i hi)⟩
theorem Row1.below (h : Row1 w v vs) (hb : Below w.heap.size w w') : Row1 w' v vs := h.same hb.size fun _ _ hp => hb.cell hp
theorem below_drewN {B : Nat} {a : World} (h : Below B a w) (n : Nat) : Below B a (w.drewN n) := h.trans ⟨rfl, rfl, rfl, Nat.le_refl _, fun _ _ => rfl⟩
theorem Row1.of_own {base : Nat} {e : TypeId} {n : Nat} (h : w.ownsRow base e 1 v n vs) : Row1 w v vs := by
 have hl : vs.length = n := by have := h.1; omega
 rcases h.2 with ⟨rfl, h0⟩ | ⟨g, cap, cur, rfl, hb, hg, h1, h2, _, _⟩
 ·have : vs = [] := List.eq_nil_of_length_eq_zero (by omega)
  subst this
  exact Row1.nil w
 ·refine ⟨some ⟨g, 0, none⟩, cap, by rw [hl], by omega, h2, (fun e => by cases e), fun _ => ⟨g, 0, rfl, (h.lt g rfl).2, fun i hi => ?_⟩⟩
  rw [Nat.zero_add]
  exact h.cellAt i (by omega)
theorem run_append_row (t ty e : TypeId) (i : TypeInfo) (z : Value) (bytes : Nat) (ht : P.underlying t = some (.slice e)) (hi : P.info? e = some i) (hz : i.zero = some z)
  (hsize : i.size = 1) (hby : i.bytes = bytes) (hzs : z.cells.size = 1) (base : Nat) (x : Value) (n : Nat) (xs : List Value) (hown : w.ownsRow base e 1 x n xs)
  (hv : Row1 w v vs) (h1 : ∀ u ∈ vs, u.oneCell' = true) (h63 : n + vs.length ≤ maxLen) (hbytes : (n + vs.length) * bytes ≤ 140737488355328) (hbase : base ≤ w.heap.size) :
  ∃ x' w', (Builtin.append_ #[t, t] ty #[x, v]).run P w = .ok x' w' ∧ w'.ownsRow base e 1 x' (n + vs.length) (xs ++ vs) ∧ w.grownBy w' x.ownBlock := by
 obtain ⟨a, cap, rfl, hc1, hc2, hc3, hc4⟩ := hv
 cases a with
 | none =>
  have hcap := hc3 rfl
  have : vs = [] := List.eq_nil_of_length_eq_zero (by omega)
  subst this
  subst hcap
  refine ⟨x, w, run_append_owned_none w base t ty e i 1 ht hi x n xs hown, ?_, World.grownBy.refl _ _⟩
  simpa using hown
 | some ad =>
  have hnews : ∀ j u, vs[j]? = some u → w.cell? (ad.add j) = some u := by
   intro j u hu
   have hne : vs ≠ [] := by intro e; subst e; simp at hu
   obtain ⟨b, off, he, hb, hcell⟩ := hc4 hne
   cases he
   have hj : j < vs.length := by
    rcases Nat.lt_or_ge j vs.length with h | h
    ·exact h
    ·rw [List.getElem?_eq_none h] at hu; cases hu
   rw [WideShapes.add_plain, hcell j hj, hu]
  obtain ⟨x', w', hr, h2, h3, _⟩ := run_append_own (P := P) w base t ty e i z 1 bytes ht hi hz hsize hby hzs (by omega) x n xs hown ad vs.length cap vs (by omega) hnews h1 h63 hbytes hbase
  exact ⟨x', w', hr, h2, h3⟩
theorem wp_append_row {o : Oper} {a : Act} {K : Act → World → Prop} {Q : Exit → Act → World → Prop} (s y : Operand) (t : TypeId)
  (ho : o.op = .call { callee := .builtin .append, args := #[s, y], argTypes := #[t, t] })
  (base : Nat) (e : TypeId) (i : TypeInfo) (z : Value) (bytes : Nat) (ht : P.underlying t = some (.slice e)) (hi : P.info? e = some i) (hz : i.zero = some z)
  (hsize : i.size = 1) (hby : i.bytes = bytes) (hzs : z.cells.size = 1)
  (x : Value) (n : Nat) (xs : List Value) (hs : a.eval s = x) (hown : w.ownsRow base e 1 x n xs)
  (hx : a.eval y = v) (hv : Row1 w v vs) (h1 : ∀ u ∈ vs, u.oneCell' = true)
  (h63 : n + vs.length ≤ maxLen) (hbytes : (n + vs.length) * bytes ≤ 140737488355328) (hbase : base ≤ w.heap.size)
  (h : ∀ x' w', w'.ownsRow base e 1 x' (n + vs.length) (xs ++ vs) → w.grownBy w' x.ownBlock → K (a.put o.dst x') w') : o.wp P a w K Q := by
 obtain ⟨x', w', hr, h2, h3⟩ := run_append_row (P := P) (w := w) t o.type e i z bytes ht hi hz hsize hby hzs base x n xs hown hv h1 h63 hbytes hbase
 unfold Oper.wp execOp
 simp only [ho, resolve, invoke, builtin, Sem.run_bind, Sem.run_pure, Result.andThen_ok, List.map_toArray, List.map_cons, List.map_nil, hs, hx, hr]
 exact h x' w' h2 h3
theorem wpList_append_row {ops : Array Oper} {rest : List Oper} {o : Oper} {a : Act} {Q : Exit → Act → World → Prop} (hgd : o.guard = none) (s y : Operand) (t : TypeId)
  (ho : o.op = .call { callee := .builtin .append, args := #[s, y], argTypes := #[t, t] })
  (base : Nat) (e : TypeId) (i : TypeInfo) (z : Value) (bytes : Nat) (ht : P.underlying t = some (.slice e)) (hi : P.info? e = some i) (hz : i.zero = some z)
  (hsize : i.size = 1) (hby : i.bytes = bytes) (hzs : z.cells.size = 1)
  (x : Value) (n : Nat) (xs : List Value) (hs : a.eval s = x) (hown : w.ownsRow base e 1 x n xs)
  (hx : a.eval y = v) (hv : Row1 w v vs) (h1 : ∀ u ∈ vs, u.oneCell' = true)
  (h63 : n + vs.length ≤ maxLen) (hbytes : (n + vs.length) * bytes ≤ 140737488355328) (hbase : base ≤ w.heap.size)
  (h : ∀ x' w', w'.ownsRow base e 1 x' (n + vs.length) (xs ++ vs) → w.grownBy w' x.ownBlock → wpList P ops Q rest (a.put o.dst x') w') : wpList P ops Q (o :: rest) a w :=
 wpList_plain hgd fun _ hK => wp_append_row s y t ho base e i z bytes ht hi hz hsize hby hzs x n xs hs hown hx hv h1 h63 hbytes hbase fun x' w' h2 h3 => hK _ _ (h x' w' h2 h3)
theorem Row1.made (w : World) (c : Array Value) (e : TypeId) (n m : Nat) (l : List Value) (hn : w.heap.size = n) (hc : c.toList = l) (hl : l.length = m) (hm : m ≤ maxLen) : Row1 (w.alloc (.cells c e)) (.slice (some ⟨n, 0, none⟩) m m) l := by
 subst hn; subst hl; subst hc
 refine ⟨_, _, rfl, Nat.le_refl _, hm, (fun e => by cases e), fun _ => ⟨w.heap.size, 0, rfl, by simp, fun i hi => ?_⟩⟩
 rw [Nat.zero_add, World.cell?_alloc_at _ _ _ _ rfl]
 simp
theorem own_below {base : Nat} {e : TypeId} {size n : Nat} {xs : List Value} {x : Value} (h : w.ownsRow base e size x n xs) (hb : Below w.heap.size w w') : w'.ownsRow base e size x n xs := by
 obtain ⟨h1, h2⟩ := h
 refine ⟨h1, ?_⟩
 rcases h2 with h2 | ⟨g, cap, cur, r1, r2, r3, r4⟩
 ·exact Or.inl h2
 ·refine Or.inr ⟨g, cap, cur, r1, r2, ?_, r4⟩
  have hg : g < w.heap.size := by
   rcases Nat.lt_or_ge g w.heap.size with h | h
   ·exact h
   ·rw [Array.getElem?_eq_none h] at r3; cases r3
  rw [hb.block g hg, r3]
theorem own_mono {base base' : Nat} {e : TypeId} {size n : Nat} {xs : List Value} {x : Value} (h : w.ownsRow base e size x n xs) (hb : base' ≤ base) : w.ownsRow base' e size x n xs := by
 obtain ⟨h1, h2⟩ := h
 refine ⟨h1, ?_⟩
 rcases h2 with h2 | ⟨g, cap, cur, r1, r2, r3⟩
 ·exact Or.inl h2
 ·exact Or.inr ⟨g, cap, cur, r1, Nat.le_trans hb r2, r3⟩
def Blk (w : World) (c : Nat) (cs : List Value) (t : TypeId) : Prop := w.heap[c]? = some (.cells cs.toArray t (0, 0))
theorem Blk.cell {c : Nat} {cs : List Value} {t : TypeId} (h : Blk w c cs t) (i : Nat) : w.cell? ⟨c, i, none⟩ = cs[i]? := by
 unfold Blk at h
 simp [World.cell?, h]
theorem Blk.free {c : Nat} {cs : List Value} {t : TypeId} (h : Blk w c cs t) (i : Nat) : w.frozen? ⟨c, i, none⟩ = false := by
 unfold Blk at h
 simp [World.frozen?, h]
theorem Blk.lt {c : Nat} {cs : List Value} {t : TypeId} (h : Blk w c cs t) : c < w.heap.size := lt_of_block h
theorem Blk.set {c : Nat} {cs : List Value} {t : TypeId} (h : Blk w c cs t) (i : Nat) (u : Value) : Blk (w.setCell ⟨c, i, none⟩ u) c (cs.set i u) t := by
 have := heap_setCell_same w c i cs.toArray t u h
 unfold Blk
 rw [this]
 simp
theorem Blk.same {c : Nat} {cs : List Value} {t : TypeId} (h : Blk w c cs t) (he : w'.heap[c]? = w.heap[c]?) : Blk w' c cs t := he.trans h
theorem Blk.drewN {c : Nat} {cs : List Value} {t : TypeId} (h : Blk w c cs t) (n : Nat) : Blk (w.drewN n) c cs t := h
theorem Blk.grown {c : Nat} {cs : List Value} {t : TypeId} {row : Option Nat} (h : Blk w c cs t) (hg : w.grownBy w' row) (hne : row ≠ some c) : Blk w' c cs t :=
 h.same (hg.block c h.lt (fun e => hne e.symm))
theorem Blk.made (w : World) (cs : List Value) (t : TypeId) : Blk (w.alloc (.cells cs.toArray t)) w.heap.size cs t := heap_alloc_new w _
theorem grownBy_trans {a b d : World} {row : Option Nat} (h : a.grownBy b row) (g : b.grownBy d row) : a.grownBy d row :=
 ⟨g.os.trans h.os, g.tape.trans h.tape, g.output.trans h.output, Nat.le_trans h.size g.size, fun k hk hr => (g.block k (Nat.lt_of_lt_of_le hk h.size) hr).trans (h.block k hk hr)⟩
theorem grownBy_set {a b : World} {c : Nat} (h : a.grownBy b (some c)) (i : Nat) (u : Value) : a.grownBy (b.setCell ⟨c, i, none⟩ u) (some c) :=
 ⟨h.os, h.tape, h.output, by simpa [World.setCell] using h.size, fun k hk hr => (heap_setCell_other b ⟨c, i, none⟩ k u (fun e => hr (by rw [e]))).trans (h.block k hk hr)⟩
theorem grownBy_refl (a : World) (row : Option Nat) : a.grownBy a row := World.grownBy.refl a row
theorem grown_of_below {a b : World} (h : Below a.heap.size a b) (row : Option Nat) : a.grownBy b row :=
 ⟨h.os, h.tape, h.output, h.size, fun k hk _ => h.block k hk⟩
def bval (b : UInt8) : Value := .int .u8 (b.toNat : Int)
theorem bval_one (l : List UInt8) : ∀ u ∈ l.map bval, u.oneCell' = true := by
 intro u hu
 obtain ⟨c, _, rfl⟩ := List.mem_map.1 hu
 rfl
def RowB (w : World) (v : Value) (ls : List (List UInt8)) : Prop :=
 ∃ vals : List Value, Row1 w v vals ∧ vals.length = ls.length ∧ ∀ (i : Nat) (x : Value) (l : List UInt8), vals[i]? = some x → ls[i]? = some l → Row1 w x (l.map bval)
end
end
section
open Go.ChangeShapes Go.WideShapes Go.ChangeAt Go.RowKit
theorem trodAll_len {H : Type} {enc : TypeId × Value → H} {P : Program} {w : World} {base : Nat} {sp : Nat → Bool} {held : Bool} :
  ∀ {ts : List TypeId} {vs : List Value} {ds : List (DataW H)} {ps : List MemPlace}, DataW.TrodAll enc P w base sp held ts vs ds ps → ds.length = ts.length
 | [], _, _, _, h => by
  obtain ⟨rfl, rfl, rfl⟩ := trodAll_nil h
  rfl
 | _ :: _, _, _, _, h => by
  obtain ⟨v, vs1, d, ds1, a, b, rfl, rfl, rfl, g1, g2⟩ := trodAll_cons h
  simp [trodAll_len g2]
theorem trodAll_stays {H : Type} {enc : TypeId × Value → H} {P : Program} (hl : laidOutB P = true) {W W' : World} {base : Nat} {sp' : Nat → Bool} :
  ∀ {ts : List TypeId} {vs : List Value} {ds : List (DataW H)} {ps : List MemPlace}, (ts.all fun t => P.readableRec t && decide (t < P.types.size)) = true →
  DataW.TrodAll enc P W base (fun _ => true) true ts vs ds ps → (∀ p ∈ ps, W.sameAt W' p) → (∀ p ∈ ps, sp' p.block = true) → DataW.TrodAll enc P W' base sp' true ts vs ds ps
 | [], _, _, _, _, h, _, _ => by
  obtain ⟨rfl, rfl, rfl⟩ := trodAll_nil h
  exact trodAll_mk0
 | t :: ts, _, _, _, hr, h, h1, h2 => by
  obtain ⟨v, vs1, d, ds1, a, b, rfl, rfl, rfl, g1, g2⟩ := trodAll_cons h
  rw [List.all_cons, Bool.and_eq_true, Bool.and_eq_true] at hr
  obtain ⟨⟨r1, r2⟩, r3⟩ := hr
  exact ⟨a, b, WideElems.Trod_stays hl r1 (of_decide_eq_true r2) g1 (fun p hp => h1 p (List.mem_append_left _ hp)) (fun p hp => h2 p (List.mem_append_left _ hp)),
   trodAll_stays hl r3 g2 (fun p hp => h1 p (List.mem_append_right _ hp)) (fun p hp => h2 p (List.mem_append_right _ hp)), rfl⟩
section
variable {H : Type} {enc : TypeId × Value → H} {P : Program} {W : World} {sp : Nat → Bool}
theorem cell_int {e : TypeId} {k : IntKind} (he : P.underlying e = some (.int k)) {n : Nat} {x : Value} {y : DataW H × List MemPlace}
  (h : DataW.trod enc P W 0 sp true n e [x] = some y) : ∃ b, x = .int k b ∧ (Lit.int k b).wf = true := by
 cases n with
 | zero => simp [DataW.trod] at h
 | succ n =>
  unfold DataW.trod at h
  rw [he] at h
  cases x <;> simp at h
  rename_i k' b
  obtain ⟨⟨rfl, h2⟩, _⟩ := h
  exact ⟨b, rfl, h2⟩
theorem list_of_all {α : Type} {f : α → Value} {p : α → Prop} : ∀ {vs : List Value}, (∀ x ∈ vs, ∃ a, x = f a ∧ p a) → ∃ l : List α, vs = l.map f ∧ ∀ a ∈ l, p a
 | [], _ => ⟨[], rfl, fun a h => by cases h⟩
 | v :: vs, h => by
  obtain ⟨a, rfl, ha⟩ := h v (List.mem_cons_self ..)
  obtain ⟨l, rfl, hl⟩ := list_of_all (fun x hx => h x (List.mem_cons_of_mem _ hx))
  exact ⟨a :: l, rfl, fun b hb => by
   rcases List.mem_cons.1 hb with rfl | hb
   ·exact ha
   ·exact hl b hb⟩
theorem open_array {base0 : Nat} {r : Reach} {t e : TypeId} {len : Nat} {v : Value} {d : DataW H} {ps : List MemPlace} (ht : P.underlying t = some (.array len e)) (hc : P.cellsOf e = 1) (hct : P.cellsOf t = len)
  (hval : Value.okWide P W r base0 t v) (hd : DataW.Trod enc P W 0 (fun _ => true) true t v d ps) :
  ∃ vs : List Value, v = .agg vs.toArray ∧ vs.length = len ∧ ∀ x ∈ vs, ∃ n y, DataW.trod enc P W 0 (fun _ => true) true n e [x] = some y := by
 simp only [Value.okWide, ht] at hval
 obtain ⟨cs, rfl, hsz, _⟩ := hval
 rw [hct] at hsz
 obtain ⟨fuel, hf⟩ := hd
 obtain ⟨xs, m, _, _, hl, hxl, hx⟩ := DataW.trod_array ht hf
 obtain ⟨l⟩ := cs
 refine ⟨l, rfl, by simpa using hsz, fun x hxm => ?_⟩
 obtain ⟨i, hi, rfl⟩ := List.getElem_of_mem hxm
 have hlen : l.length = len := by simpa using hsz
 have hi' : i < len := by omega
 have := hx i hi'
 rw [hc, Nat.mul_one] at this
 refine ⟨m, xs[i]'(by omega), ?_⟩
 rw [List.getElem?_eq_getElem (by omega)] at this
 rw [← this]
 congr 1
 show [l[i]] = (l.drop i).take 1
 rw [List.drop_eq_getElem_cons hi]
 rfl
theorem open_array_ints {base0 : Nat} {r : Reach} {t e : TypeId} {len : Nat} {k : IntKind} {v : Value} {d : DataW H} {ps : List MemPlace} (ht : P.underlying t = some (.array len e)) (he : P.underlying e = some (.int k)) (hc : P.cellsOf e = 1) (hct : P.cellsOf t = len)
  (hval : Value.okWide P W r base0 t v) (hd : DataW.Trod enc P W 0 (fun _ => true) true t v d ps) :
  ∃ zs : List Int, v = .agg (zs.map (Value.int k)).toArray ∧ zs.length = len ∧ ∀ n ∈ zs, (Lit.int k n).wf = true := by
 obtain ⟨vs, rfl, hl, h2⟩ := open_array ht hc hct hval hd
 obtain ⟨l, rfl, hw⟩ := list_of_all (f := Value.int k) (p := fun n => (Lit.int k n).wf = true) (fun x hx => by
  obtain ⟨n, y, h⟩ := h2 x hx
  exact cell_int he h)
 exact ⟨l, rfl, by simpa using hl, hw⟩
end
theorem law_own : ownKnob Tryd.prog.godebug = none := by kernel_rfl
theorem law_laid : laidOutB Tryd.prog = true := by kernel_rfl
end
section
section
variable {P : Program} {w w' : World}
def laid : List Value → Nat → List Value → List Value
 | cs, _, [] => cs
 | cs, o, v :: r => laid (cs.set o v) (o + 1) r
theorem laid_get : ∀ (vs cs : List Value) (o : Nat), o + vs.length ≤ cs.length → ∀ i, (laid cs o vs)[i]? = if o ≤ i ∧ i < o + vs.length then vs[i - o]? else cs[i]?
 | [], cs, o, h, i => by simp [laid]; omega
 | v :: r, cs, o, h, i => by
  rw [List.length_cons] at h
  rw [laid, laid_get r _ _ (by simp; omega)]
  by_cases h1 : i = o
  ·subst h1
   rw [if_neg (by omega), if_pos (by simp), List.getElem?_set_self (by omega)]
   simp
  ·by_cases h2 : o + 1 ≤ i ∧ i < o + 1 + r.length
   ·rw [if_pos h2, if_pos (by rw [List.length_cons]; omega), show i - o = (i - (o + 1)) + 1 from by omega]
    simp
   ·rw [if_neg h2, if_neg (by rw [List.length_cons]; omega), List.getElem?_set_ne (by omega)]
theorem laid_all (cs vs : List Value) (h : vs.length = cs.length) : laid cs 0 vs = vs := by
 apply List.ext_getElem?
 intro i
 rw [laid_get _ _ _ (by omega)]
 by_cases hi : i < vs.length
 ·rw [if_pos (by omega)]
  simp
 ·rw [if_neg (by omega), List.getElem?_eq_none (by omega), List.getElem?_eq_none (by omega)]
theorem Blk.setCells {c : Nat} {t : TypeId} : ∀ (vs : List Value) (cs : List Value) (o : Nat) (w : World), Blk w c cs t → Blk (w.setCells c o vs) c (laid cs o vs) t
 | [], _, _, _, h => h
 | v :: r, cs, o, w, h => Blk.setCells r (cs.set o v) (o + 1) _ (h.set o v)
theorem grownBy_setCells {c : Nat} : ∀ (vs : List Value) (o : Nat) (a b : World), a.grownBy b (some c) → a.grownBy (b.setCells c o vs) (some c)
 | [], _, _, _, h => h
 | v :: r, o, a, b, h => grownBy_setCells r (o + 1) a _ (grownBy_set h o v)
theorem Blk.there {c : Nat} {cs : List Value} {t : TypeId} (h : Blk w c cs t) (n : Nat) (hn : n ≤ cs.length) : w.there c 0 n := fun j hj => by
 rw [Nat.zero_add]
 refine ⟨?_, h.free j⟩
 rw [h.cell j, List.getElem?_eq_getElem (by omega)]
 rfl
theorem Blk.range {c : Nat} {cs : List Value} {t : TypeId} (h : Blk w c cs t) : w.rangeAt c 0 cs := fun j v hv => by
 rw [Nat.zero_add, h.cell j, hv]
theorem wpList_load_blk {ops : Array Oper} {rest : List Oper} {o : Oper} {a : Act} {Q : Exit → Act → World → Prop} (hgd : o.guard = none) (ty : TypeId) (x : Operand) (ho : o.op = .load ty x)
  (c : Nat) (hx : a.eval x = .pointer (some ⟨c, 0, none⟩)) (t : TypeId) (cs : List Value) (n : Nat) (e : TypeId) (hb : Blk w c cs t)
  (hu : P.underlying ty = some (.array n e)) (hi : (P.info? ty).map (·.size) = some cs.length)
  (h : wpList P ops Q rest (a.put o.dst (.agg cs.toArray)) w) : wpList P ops Q (o :: rest) a w :=
 wpList_load_mid hgd ty x ho c 0 hx cs _ hb.range hu rfl hi h
theorem wpList_store_blk {ops : Array Oper} {rest : List Oper} {o : Oper} {a : Act} {Q : Exit → Act → World → Prop} (hgd : o.guard = none) (ty : TypeId) (x y : Operand) (ho : o.op = .store ty x y)
  (c : Nat) (vs : List Value) (hx : a.eval x = .pointer (some ⟨c, 0, none⟩)) (hy : a.eval y = .agg vs.toArray)
  (t : TypeId) (cs : List Value) (hb : Blk w c cs t) (hl : vs.length = cs.length) (hi : (P.info? ty).map (·.size) = some vs.length) (h1 : ∀ v ∈ vs, v.oneCell' = true)
  (h : ∀ w', Blk w' c vs t → w.grownBy w' (some c) → wpList P ops Q rest (a.put o.dst undef) w') : wpList P ops Q (o :: rest) a w :=
 wpList_store_mid hgd ty x y ho c 0 vs.toArray hx hy (by simpa using hb.there vs.length (by omega)) (by simpa using hi) (all_oneCell_toArray h1)
  (h _ (by simpa [laid_all cs vs hl] using Blk.setCells vs cs 0 w hb) (grownBy_setCells _ 0 w w (grownBy_refl w _)))
theorem wp_store_blk {o : Oper} {a : Act} {K : Act → World → Prop} {Q : Exit → Act → World → Prop} (ty : TypeId) (x y : Operand) (ho : o.op = .store ty x y)
  (c : Nat) (vs : List Value) (hx : a.eval x = .pointer (some ⟨c, 0, none⟩)) (hy : a.eval y = .agg vs.toArray)
  (t : TypeId) (cs : List Value) (hb : Blk w c cs t) (hl : vs.length = cs.length) (hi : (P.info? ty).map (·.size) = some vs.length) (h1 : ∀ v ∈ vs, v.oneCell' = true)
  (h : ∀ w', Blk w' c vs t → w.grownBy w' (some c) → K (a.put o.dst undef) w') : o.wp P a w K Q :=
 wp_store_mid ty x y ho c 0 vs.toArray hx hy (by simpa using hb.there vs.length (by omega)) (by simpa using hi) (all_oneCell_toArray h1)
  (h _ (by simpa [laid_all cs vs hl] using Blk.setCells vs cs 0 w hb) (grownBy_setCells _ 0 w w (grownBy_refl w _)))
theorem Blk.below {c : Nat} {cs : List Value} {t : TypeId} (h : Blk w c cs t) (hb : Below w.heap.size w w') : Blk w' c cs t := h.same (hb.block _ h.lt)
theorem result_blk {fn : Func} {p : Tmp} {ty : TypeId} (h : fn.results = #[.cell p ty]) (tmps : Array Value) (c : Nat) (t : TypeId) (cs : List Value) (n : Nat) (e : TypeId)
  (hp : tmps.getD p undef = .pointer (some ⟨c, 0, none⟩)) (hb : Blk w c cs t) (hu : P.underlying ty = some (.array n e)) (hi : (P.info? ty).map (·.size) = some cs.length) :
  (results fn tmps).run P w = .ok (.agg cs.toArray) w :=
 results_cell_row h tmps w c t cs.toArray (0, 0) _ hp hb hu rfl (by simpa using hi)
theorem Blk.far {c : Nat} {cs : List Value} {t : TypeId} {a : Addr} (h : Blk w c cs t) (ha : a.block ≠ c) (v : Value) : Blk (w.setCell a v) c cs t :=
 h.same (heap_setCell_other w a c v (fun e => ha e.symm))
theorem Blk.alloc {c : Nat} {cs : List Value} {t : TypeId} (h : Blk w c cs t) (o : Obj) : Blk (w.alloc o) c cs t := h.same (heap_alloc_old w o h.lt)
theorem boxes2 (w : World) (a b : List Value) (s t : TypeId) : Blk ((w.alloc (.cells a.toArray s)).alloc (.cells b.toArray t)) w.heap.size a s ∧ Blk ((w.alloc (.cells a.toArray s)).alloc (.cells b.toArray t)) (w.heap.size + 1) b t ∧
  Below w.heap.size w ((w.alloc (.cells a.toArray s)).alloc (.cells b.toArray t)) := by
 refine ⟨(Blk.made w a s).alloc _, ?_, ((Below.refl _ _).alloc (Nat.le_refl _) _).alloc (by simp) _⟩
 have := Blk.made (w.alloc (.cells a.toArray s)) b t
 simpa using this
theorem boxes3 (w : World) (a b c : List Value) (s t u : TypeId) : Blk (((w.alloc (.cells a.toArray s)).alloc (.cells b.toArray t)).alloc (.cells c.toArray u)) w.heap.size a s ∧ Blk (((w.alloc (.cells a.toArray s)).alloc (.cells b.toArray t)).alloc (.cells c.toArray u)) (w.heap.size + 1) b t ∧
  Blk (((w.alloc (.cells a.toArray s)).alloc (.cells b.toArray t)).alloc (.cells c.toArray u)) (w.heap.size + 1 + 1) c u ∧ Below w.heap.size w (((w.alloc (.cells a.toArray s)).alloc (.cells b.toArray t)).alloc (.cells c.toArray u)) := by
 obtain ⟨h1, h2, h3⟩ := boxes2 w a b s t
 refine ⟨h1.alloc _, h2.alloc _, ?_, h3.alloc (by simp; omega) _⟩
 have := Blk.made ((w.alloc (.cells a.toArray s)).alloc (.cells b.toArray t)) c u
 simpa using this
theorem boxes4 (w : World) (a b c d : List Value) (s t u v : TypeId) : Blk ((((w.alloc (.cells a.toArray s)).alloc (.cells b.toArray t)).alloc (.cells c.toArray u)).alloc (.cells d.toArray v)) w.heap.size a s ∧ Blk ((((w.alloc (.cells a.toArray s)).alloc (.cells b.toArray t)).alloc (.cells c.toArray u)).alloc (.cells d.toArray v)) (w.heap.size + 1) b t ∧
  Blk ((((w.alloc (.cells a.toArray s)).alloc (.cells b.toArray t)).alloc (.cells c.toArray u)).alloc (.cells d.toArray v)) (w.heap.size + 1 + 1) c u ∧ Blk ((((w.alloc (.cells a.toArray s)).alloc (.cells b.toArray t)).alloc (.cells c.toArray u)).alloc (.cells d.toArray v)) (w.heap.size + 1 + 1 + 1) d v ∧ Below w.heap.size w ((((w.alloc (.cells a.toArray s)).alloc (.cells b.toArray t)).alloc (.cells c.toArray u)).alloc (.cells d.toArray v)) := by
 obtain ⟨h1, h2, h3, h4⟩ := boxes3 w a b c s t u
 refine ⟨h1.alloc _, h2.alloc _, h3.alloc _, ?_, h4.alloc (by simp; omega) _⟩
 have := Blk.made (((w.alloc (.cells a.toArray s)).alloc (.cells b.toArray t)).alloc (.cells c.toArray u)) d v
 simpa using this
def ints (k : IntKind) (zs : List Int) : List Value := zs.map (.int k)
theorem ints_one (k : IntKind) (zs : List Int) : ∀ v ∈ ints k zs, v.oneCell' = true := by
 intro u hu
 obtain ⟨z, _, rfl⟩ := List.mem_map.1 hu
 rfl
theorem ints_set (k : IntKind) (zs : List Int) (i : Nat) (z : Int) : (ints k zs).set i (.int k z) = ints k (zs.set i z) := by
 unfold ints
 rw [List.map_set]
theorem ints_get {k : IntKind} {zs : List Int} {i : Nat} (h : i < zs.length) : (ints k zs)[i]? = some (.int k (zs.getD i 0)) := by
 simp [ints, List.getD, h]
theorem ints_length (k : IntKind) (zs : List Int) : (ints k zs).length = zs.length := by simp [ints]
end
end
section
open Go.ChangeShapes Go.WideShapes Go.ChangeAt Go.WideMaps Go.WideElems Go.RowKit
theorem laid_in {P : Program} {w : World} : ∀ {laid : List (String × DataW Unit)} {ps : List MemPlace} {n : String} {d : DataW Unit}, DataW.LaidVars P w laid ps → (n, d) ∈ laid →
  ∃ g t cs fuel p, P.globalNamed n = some g ∧ (P.globals[g]?).map (·.type) = some t ∧ w.var? P n = some cs ∧ DataW.trod (fun _ => ()) P w 0 (fun _ => true) false fuel t cs.toList = some (d, p)
 | [], _, _, _, _, hm => by cases hm
 | (n0, d0) :: r, ps, n, d, h, hm => by
  obtain ⟨g, t, cs, fuel, p, q, h1, h2, h3, h4, h5, _⟩ := h
  rcases List.mem_cons.1 hm with e | hm
  ·cases e
   exact ⟨g, t, cs, fuel, p, h1, h2, h3, h4⟩
  ·exact laid_in h5 hm
theorem range_of_laid {P : Program} {W : World} {L : List (String × DataW Unit)} {n : String} {g len : Nat} {t e : TypeId} {k : IntKind} {zs : List Int} {d : DataW Unit}
  (hplain : (L.all fun x => x.2.handleName?.isNone) = true) (h : laidMetH P L W) (hm : (n, d) ∈ L) (hd : d = .agg (zs.map fun z => .lit (.int k z)))
  (hg : P.globalNamed n = some g) (ht : (P.globals[g]?).map (·.type) = some t) (hu : P.underlying t = some (.array len e)) (he : P.underlying e = some (.int k)) (hc : P.cellsOf e = 1) (hz : zs.length = len) : W.rangeAt g 0 (ints k zs) := by
 rw [MakeChecks.laidMetH_plain _ _ _ hplain] at h
 obtain ⟨ps, hl, _, _⟩ := h
 obtain ⟨g0, t0, cs0, f0, p0, hg0, ht0, hv0, hd0⟩ := laid_in hl hm
 obtain rfl := Option.some.inj (hg.symm.trans hg0)
 obtain rfl := Option.some.inj (ht.symm.trans ht0)
 obtain ⟨xs, m, rfl, hx1, hlen, hn, hel⟩ := DataW.trod_array hu hd0
 rw [hd] at hx1
 simp only [Prod.mk.injEq, DataW.agg.injEq] at hx1
 intro j v hj
 have hjl : j < len := by
  apply Classical.byContradiction
  intro hn'
  rw [List.getElem?_eq_none (by rw [ints_length]; omega)] at hj
  cases hj
 have h0 := hel j hjl
 rw [hc, Nat.mul_one] at h0
 obtain ⟨x0, hx0⟩ : ∃ x0, xs[j]? = some x0 := ⟨xs[j], List.getElem?_eq_getElem (by omega)⟩
 rw [hx0] at h0
 obtain ⟨q, e1, e2, _⟩ := DataW.trod_int he h0
 have e3 : (zs.map fun z => (DataW.lit (.int k z) : DataW Unit))[j]? = some x0.1 := by rw [hx1.1, List.getElem?_map, hx0]; rfl
 rw [e2, List.getElem?_map] at e3
 have e4 : zs[j]? = some q := by
  cases hr : zs[j]? with
  | none => rw [hr] at e3; cases e3
  | some z => rw [hr] at e3; simpa using e3
 have e5 : v = .int k q := by
  unfold ints at hj
  rw [List.getElem?_map, e4] at hj
  simpa using hj.symm
 have e6 : cs0.toList[j]? = some (.int k q) := by
  have := congrArg (fun l : List Value => l[0]?) e1
  simpa [List.getElem?_take, List.getElem?_drop] using this
 have := World.var?_cell hg0 hv0 j
 rw [Nat.zero_add, this, e5]
 simpa using e6
def LawWalkG (G : World → Prop) {H : Type} (enc : TypeId × Value → H) (P : Program) (f : FuncId) (ts : List TypeId) : Prop :=
 ∀ (W : World) (base : Nat) (args : Array Value) (ds : List (DataW H)) (ps : List MemPlace),
  (∀ (j : Nat) (t : TypeId) (v : Value), ts[j]? = some t → args[j]? = some v → Value.okWide P W .any base t v) →
  DataW.TrodAll enc P W 0 (fun _ => true) true ts args.toList ds ps → (∀ x ∈ ps, x.block < W.heap.size) → W.noneFrozen ps → G W →
  Calls P f args W fun e w' => e = .returned (.bool true) ∧ Below W.heap.size W w'
theorem law_lift_tied {G : World → Prop} {H : Type} {enc : TypeId × Value → H} {C : Checked} {os : Os} {f : FuncId} {fn : Func} {s : ChangeSpec} {tb : TypeId} (L : List (String × DataW Unit))
  (own : ownKnob C.prog.godebug = none) (laid : laidOutB C.prog = true) (started : os.Started)
  (hinit : C.prog.inits.idxOf? f = none) (hf : C.prog.funcs[f]? = some fn) (hvars : s.vars = [])
  (hread : (fn.params.toList.all fun t => C.prog.readableRec t && decide (t < C.prog.types.size)) = true)
  (hres : fn.resultTypes = #[tb]) (hb : C.prog.underlying tb = some .bool)
  (hs : ∀ ds : List (DataW H), ds.length = fn.params.toList.length → (s.fn H ds).results = [.lit (.bool true)] ∧ (s.fn H ds).args = ds ∧ (s.fn H ds).vars = [])
  (hwit : ∃ (w : World) (tape : Tape) (i : Input), w.os = os ∧ (w.forCall tape i).Shaped C.prog ∧ i.vars = [] ∧ Input.okWide C.prog (w.forCall tape i) .any w.heap.size f i ∧
   ((s.pre enc C.prog fn [] false (w.forCall tape i).memory i.args ∧ laidMetH C.prog L (w.forCall tape i).memory) ∧ sizedMet enc C.prog fn (OpenSpec.ofChange s) false (w.forCall tape i).memory i.args) ∧ ({} : Assume).holds C.prog (lone (Frame.enter C.prog f i.args .normal) [] (w.forCall tape i)))
  (hglob : ∀ W, laidMetH C.prog L W → G W) (walk : LawWalkG G enc C.prog f fn.params.toList) :
  ReturnsInHanded {} C os f .any (fun w args => (s.pre enc C.prog fn [] false w args ∧ laidMetH C.prog L w) ∧ sizedMet enc C.prog fn (OpenSpec.ofChange s) false w args) (s.post enc C.prog fn false true false false) := by
 refine returnsInHanded_of_change_and (C := C) (X := fun w _ => laidMetH C.prog L w) (fun _ _ _ hh h => h.of_heap hh) own started hinit hf hwit ?_
 intro W base args ds gs before hval hW _ _ hL _
 have hW' := hW
 have hlt := hW.lt
 obtain ⟨p, q, hA, hV, rfl, hfz, hnd⟩ := hW
 rw [hvars] at hV
 obtain ⟨rfl, rfl⟩ := trodVars_none hV
 rw [List.append_nil] at hlt hfz
 have hlen := trodAll_len hA
 obtain ⟨e1, e2, e3⟩ := hs ds hlen
 refine (walk W base args ds p (fun j t v hj hv => hval j t v (by rw [← Array.getElem?_toList]; exact hj) hv) hA hlt hfz (hglob W hL)).mono ?_
 rintro e w' ⟨rfl, hbel⟩
 refine ⟨_, rfl, ds, [], p ++ [], [], p, [], hW', ?_, ?_, ?_, ?_, ?_⟩
 ·rw [List.append_nil, e1, hres]
  exact trodAll_mk1 (shut_bool hb _)
 ·rw [List.append_nil, e2]
  exact trodAll_stays laid hread hA (fun x hx => hbel.same (hlt x hx)) (fun x hx => by simpa using hlt x hx)
 ·rw [hvars, List.append_nil, e3]
  rfl
 ·exact hbel.frame _
 ·intro h
  cases h
end
section
open Go.ChangeShapes Go.WideShapes Go.ChangeAt Go.RowKit
section
variable {H : Type} {enc : TypeId × Value → H} {P : Program} {W : World}
theorem byte_of {b : Int} (h : (Lit.int .u8 b).wf = true) : ∃ n : UInt8, b = (n.toNat : Int) := by
 have hb : 0 ≤ b ∧ b ≤ 255 := by simpa [Lit.wf, IntKind.min, IntKind.max, IntKind.signed, IntKind.bits] using h
 refine ⟨UInt8.ofNat b.toNat, ?_⟩
 rw [UInt8.toNat_ofNat']
 omega
theorem bytes_of_ints : ∀ {zs : List Int}, (∀ n ∈ zs, (Lit.int .u8 n).wf = true) → ∃ l : List UInt8, zs.map (Value.int .u8) = l.map bval
 | [], _ => ⟨[], rfl⟩
 | z :: r, h => by
  obtain ⟨n, hn⟩ := byte_of (h z (List.mem_cons_self ..))
  obtain ⟨l, hl⟩ := bytes_of_ints (zs := r) (fun x hx => h x (List.mem_cons_of_mem _ hx))
  exact ⟨n :: l, by simp only [List.map_cons, hl, hn]; rfl⟩
theorem open_num {base0 : Nat} {r : Reach} {t e : TypeId} {v : Value} {d : DataW H} {ps : List MemPlace} (ht : P.underlying t = some (.array 32 e)) (he : P.underlying e = some (.int .u8)) (hc : P.cellsOf e = 1) (hct : P.cellsOf t = 32)
  (hval : Value.okWide P W r base0 t v) (hd : DataW.Trod enc P W 0 (fun _ => true) true t v d ps) : ∃ l : List UInt8, v = .agg (l.map bval).toArray ∧ l.length = 32 := by
 obtain ⟨zs, rfl, hl, hw⟩ := open_array_ints ht he hc hct hval hd
 obtain ⟨l, e⟩ := bytes_of_ints hw
 refine ⟨l, by rw [e], ?_⟩
 have := congrArg List.length e
 simpa [hl] using this.symm
end
end
section
def Ext (w w' : World) : Prop := Below w.heap.size w w'
theorem Ext.refl (w : World) : Ext w w := Below.refl _ w
theorem Ext.trans {a b c : World} (h : Ext a b) (g : Ext b c) : Ext a c := Below.trans h (Below.mono g h.size)
theorem Ext.drew (w : World) : Ext w w.drew := (Below.refl _ w).drew
theorem Ext.alloc (w : World) (o : Obj) : Ext w (w.alloc o) := (Below.refl _ w).alloc (Nat.le_refl _) o
section
variable {P : Program} {ops : Array Oper} {Q : Exit → Act → World → Prop} {md : Region.Mode} {t : Nat}
def doneB (t : Nat) (listed : Array Bool) : Bool := (List.range t).all fun k => listed.getD k true
def wpAnyB (P : Program) (md : Region.Mode) (ops : Array Oper) (Q : Exit → Act → World → Prop) (t : Nat) : Nat → Array Bool → Act → World → Prop
 | 0, listed, a, w => ∀ w', Ext w w' → wpAny P md ops Q 0 listed a w'
 | fuel + 1, listed, a, w =>
  (doneB t listed = true → ∀ w', Ext w w' → wpAny P md ops Q (fuel + 1) listed a w') ∧
  (doneB t listed = false → ∀ w', Ext w w' → Region.ready md ops listed ≠ [] ∧
   ∀ i ∈ Region.ready md ops listed, wpOp P ops Q i (fun a' w'' => Ext w' w'' ∧ wpAnyB P md ops Q t fuel (listed.setIfInBounds i true) a' w'') a w')
theorem wpAnyB_up : ∀ {fuel : Nat} {listed : Array Bool} {a : Act} {w w' : World}, Ext w w' → wpAnyB P md ops Q t fuel listed a w → wpAnyB P md ops Q t fuel listed a w'
 | 0, _, _, _, _, hw, h => fun w2 h2 => h w2 (hw.trans h2)
 | _ + 1, _, _, _, _, hw, h => ⟨fun hd w2 h2 => h.1 hd w2 (hw.trans h2), fun hd w2 h2 => h.2 hd w2 (hw.trans h2)⟩
theorem wpAny_of_B : ∀ (fuel : Nat) {listed : Array Bool} {a : Act} {w : World}, wpAnyB P md ops Q t fuel listed a w → wpAny P md ops Q fuel listed a w
 | 0, _, _, w, h => h w (Ext.refl w)
 | fuel + 1, listed, _, w, h => by
  cases hd : doneB t listed with
  | true => exact h.1 hd w (Ext.refl w)
  | false =>
   obtain ⟨h1, h2⟩ := h.2 hd w (Ext.refl w)
   exact ⟨fun h0 => absurd h0 h1, fun i hi => wpOp_mono (fun a' w' h' => wpAny_of_B fuel h'.2) (h2 i hi)⟩
def YieldsB (P : Program) (ops : Array Oper) (C : World → Prop) (o : Oper) (v : Value) (a : Act) : Prop :=
 (Region.wanted o (yielded ops a.tmps) = true ∧ ∀ w, C w → o.quietAt P a (Ext w) w v) ∨ (Region.wanted o (yielded ops a.tmps) = false ∧ v = undef)
variable {C : World → Prop}
theorem YieldsB.of_same {o : Oper} {v : Value} {a a' : Act} (hy : YieldsB P ops C o v a) (he : execOp a'.eval o = execOp a.eval o)
  (hw : Region.wanted o (yielded ops a'.tmps) = Region.wanted o (yielded ops a.tmps)) : YieldsB P ops C o v a' := by
 rcases hy with ⟨h1, h2⟩ | ⟨h1, h2⟩
 ·exact Or.inl ⟨hw.trans h1, fun w hc => by have := h2 w hc; unfold Oper.quietAt at *; rwa [he]⟩
 ·exact Or.inr ⟨hw.trans h1, h2⟩
theorem YieldsB.wpOp {i : Nat} {o : Oper} {v : Value} {a : Act} (hi : ops[i]? = some o) (hy : YieldsB P ops C o v a) {K : Act → World → Prop} {w : World} (hC : C w)
  (h : ∀ w', Ext w w' → K (a.put o.dst v) w') : wpOp P ops Q i K a w := by
 unfold Go.wpOp
 simp only [hi]
 rcases hy with ⟨hw, hv⟩ | ⟨hw, rfl⟩
 ·rw [if_pos hw]
  left
  have h3 := hv w hC
  unfold Oper.quietAt at h3
  unfold Oper.wp
  generalize (execOp a.eval o).run P w = r at *
  cases r with
  | halt x w' => exact h3.elim
  | ok n w' =>
   cases n <;> simp only [Oper.quietUpon] at h3 <;> simp only [Oper.upon]
   case value u =>
    obtain ⟨e1, e2⟩ := h3
    rw [e1, e2]
    exact h _ (Ext.refl _)
   case skip =>
    obtain ⟨e1, e2⟩ := h3
    rw [e1, ← e2]
    exact h _ (Ext.refl _)
   case enter f args =>
    obtain ⟨e1, hc⟩ := h3
    rw [e1]
    exact hc.mono fun e w'' ⟨he, hw''⟩ => by subst he; exact h _ hw''
 ·rw [if_neg (by simp [hw])]
  exact h _ (Ext.refl _)
theorem wpOp_keep {j : Nat} {oj : Oper} {Y : Act → Prop} {K : Act → World → Prop} {a : Act} {w : World} (hj : ops[j]? = some oj) (hput : ∀ u, Y (a.put oj.dst u))
  (hdef : ∀ d, Y ({ a with defers := d :: a.defers }.put oj.dst undef)) (h : wpOp P ops Q j K a w) : wpOp P ops Q j (fun a' w' => Y a' ∧ K a' w') a w := by
 unfold wpOp at *
 simp only [hj] at *
 split
 ·rename_i hw
  simp only [hw, if_true] at h
  rcases h with h | h
  ·left
   unfold Oper.wp at *
   generalize (execOp a.eval oj).run P w = r at *
   cases r with
   | halt x w' => cases x <;> simp only [Oper.upon] at h ⊢ <;> exact h
   | ok n w' =>
    cases n <;> simp only [Oper.upon] at h ⊢
    case value u => exact ⟨hput u, h⟩
    case skip => exact ⟨hput _, h⟩
    case defer d => exact ⟨hdef d, h⟩
    case enter f args =>
     refine Calls.mono h fun e w'' he => ?_
     cases e with
     | returned u => exact ⟨hput u, he⟩
     | panicked c => exact he
     | outgrown => exact he
    case row r args2 => exact Rows.mono h fun u w'' he => ⟨hput u, he⟩
  ·exact Or.inr h
 ·rename_i hw
  simp only [hw] at h
  exact ⟨hput _, h⟩
theorem wpAnyB_first {i : Nat} {oi : Oper} {v : Value} (hi : ops[i]? = some oi) (hit : i < t) (hsel : ∀ (j : Nat) (o : Oper) cs b, ops[j]? = some o → o.op ≠ .select cs b)
  (hQ : ∀ d v c a w, Q (.panic c) (Act.put a d v) w → Q (.panic c) a w) (cl : Array Bool) (hsz : cl.size = ops.size) (hcl : ∀ j ∈ Region.ready md ops cl, j = i) (htail : ∀ k, t ≤ k → cl.getD k false = false) :
  ∀ (fuel : Nat) (listed : Array Bool) (a : Act) (w : World),
   (∀ j oj, ops[j]? = some oj → j ≠ i → listed.getD j true = false → (∀ e ∈ oj.after, Region.binds md e = true → e.on ≠ i) → oi.apart ops oj = true) →
   i ∈ Region.ready md ops listed → (∀ k, listed.getD k false = true → cl.getD k false = true) → YieldsB P ops C oi v a → (∀ w', Ext w w' → C w') →
   wpAnyB P md ops Q t fuel (listed.setIfInBounds i true) (a.put oi.dst v) w → wpAnyB P md ops Q t (fuel + 1) listed a w := by
 intro fuel
 induction fuel with
 | zero =>
  intro listed a w hfree hr hsub hy hC H
  have hun := (mem_ready.1 hr).1
  have hnd : doneB t listed = false := by
   unfold doneB
   rw [List.all_eq_false]
   exact ⟨i, List.mem_range.2 hit, by rw [hun]; simp⟩
  refine ⟨fun h => (by rw [hnd] at h; cases h), fun _ w' hw' => ⟨List.ne_nil_of_mem hr, fun j hj => ?_⟩⟩
  by_cases hji : j = i
  ·subst hji
   exact hy.wpOp hi (hC w' hw') (fun w'' h'' => ⟨h'', wpAnyB_up (hw'.trans h'') H⟩)
  ·have h0 := (H w' hw').1
   have := ready_mono hj hji
   rw [h0] at this
   cases this
 | succ fuel ih =>
  intro listed a w hfree hr hsub hy hC H
  have hun := (mem_ready.1 hr).1
  have hnd : doneB t listed = false := by
   unfold doneB
   rw [List.all_eq_false]
   exact ⟨i, List.mem_range.2 hit, by rw [hun]; simp⟩
  refine ⟨fun h => (by rw [hnd] at h; cases h), fun _ w' hw' => ⟨List.ne_nil_of_mem hr, fun j hj => ?_⟩⟩
  by_cases hji : j = i
  ·subst hji
   exact hy.wpOp hi (hC w' hw') (fun w'' h'' => ⟨h'', wpAnyB_up (hw'.trans h'') H⟩)
  ·obtain ⟨hjun, oj, hoj, hall⟩ := mem_ready.1 hj
   have hjlt : j < ops.size := (Array.getElem?_eq_some_iff.1 hoj).1
   have hjcl : cl.getD j false = true := by
    cases hc : cl.getD j false with
    | true => rfl
    | false =>
     refine absurd (hcl j (mem_ready.2 ⟨?_, oj, hoj, fun e he hb => hsub _ (hall e he hb)⟩)) hji
     have hjs : j < cl.size := by omega
     simpa [Array.getD, hjs] using hc
   have hjt : j < t := by
    rcases Nat.lt_or_ge j t with h | h
    ·exact h
    ·rw [htail j h] at hjcl; cases hjcl
   cases hd : doneB t (listed.setIfInBounds i true) with
   | true =>
    unfold doneB at hd
    have := (List.all_eq_true.1 hd) j (List.mem_range.2 hjt)
    rw [getD_set_ne true (Ne.symm hji), hjun] at this
    cases this
   | false =>
    have h1 := ((H.2 hd) w' hw').2 j (ready_mono hj hji)
    have hnot : ∀ e ∈ oj.after, Region.binds md e = true → e.on ≠ i := fun e he hb heq => by
     have h2 := hall e he hb
     rw [heq] at h2
     rcases Nat.lt_or_ge i listed.size with h' | h'
     ·simp [h'] at hun h2; rw [hun] at h2; cases h2
     ·simp [Array.getElem?_eq_none h'] at h2
    have hap := hfree j oj hoj hji hjun hnot
    obtain ⟨a1, a2, a3⟩ := Oper.apart_spec hap
    have hyf : YieldsIf P ops (fun _ => False) oi v a := hy.imp (fun h => ⟨h.1, fun _ h => h.elim⟩) id
    have h2 := wpOp_putIf hoj hap (fun cs b => hsel i oi cs b hi) (fun cs b => hsel j oj cs b hoj) (fun c a w h => hQ _ _ c a w h) hyf h1
    have keep : ∀ u, YieldsB P ops C oi v (a.put oj.dst u) := fun u => hy.of_same (execOp_put oi (fun cs b => hsel i oi cs b hi) a oj.dst u a3) (wanted_put oi a oj.dst u a3)
    have keepD : ∀ d, YieldsB P ops C oi v ({ a with defers := d :: a.defers }.put oj.dst undef) := fun d =>
     (hy.of_same (a' := { a with defers := d :: a.defers }) rfl rfl).of_same (execOp_put oi (fun cs b => hsel i oi cs b hi) _ oj.dst undef a3) (wanted_put oi _ oj.dst undef a3)
    have h3 := wpOp_keep (Y := YieldsB P ops C oi v) hoj keep keepD h2
    refine wpOp_mono (fun a' w'' h4 => ⟨h4.2.2.1, ih (listed.setIfInBounds j true) a' w'' ?_ (ready_mono hr (Ne.symm hji)) ?_ h4.1 (fun w3 h5 => hC w3 ((hw'.trans h4.2.2.1).trans h5)) ?_⟩) h3
    ·intro k ok hk hki hkun hkno
     refine hfree k ok hk hki ?_ hkno
     by_cases hjk : j = k
     ·subst hjk; exact hjun
     ·rwa [getD_set_ne true hjk] at hkun
    ·intro k hk
     by_cases hjk : j = k
     ·subst hjk; exact hjcl
     ·rw [getD_set_ne false hjk] at hk
      exact hsub k hk
    ·rw [Array.setIfInBounds_comm _ _ hji]
     exact h4.2.2.2
def closeB (md : Region.Mode) (ops : Array Oper) (i : Nat) (listed : Array Bool) : Array Bool :=
 (List.range ops.size).foldl (fun c j => if j == i || c.getD j true then c else if ((ops[j]?).map (·.after.all fun e => !Region.binds md e || c.getD e.on false)).getD false then c.setIfInBounds j true else c) listed
def detB (md : Region.Mode) (ops : Array Oper) (t : Nat) : Nat → Nat → Array Bool → Bool
 | 0, _, _ => true
 | d + 1, k, listed =>
  let cl := closeB md ops k listed
  (Region.ready md ops listed).contains k && Region.free md ops listed k && Nat.blt k t && (cl.size == ops.size) && (Region.ready md ops cl).all (· == k) && (List.range cl.size).all (fun j => Nat.blt j t || !cl.getD j false) && (List.range listed.size).all (fun j => !listed.getD j false || cl.getD j false) &&
   detB md ops t d (k + 1) (listed.setIfInBounds k true)
def wpDet (P : Program) (ops : Array Oper) (C : World → Prop) (Q : Act → Prop) : List Oper → Act → Prop
 | [], a => Q a
 | o :: rest, a => (Region.wanted o (yielded ops a.tmps) = true → ∃ v, (∀ w, C w → o.quietAt P a (Ext w) w v) ∧ wpDet P ops C Q rest (a.put o.dst v)) ∧ (Region.wanted o (yielded ops a.tmps) = false → wpDet P ops C Q rest (a.put o.dst undef))
def listN : Nat → Nat → Array Bool → Array Bool
 | 0, _, l => l
 | d + 1, k, l => listN d (k + 1) (l.setIfInBounds k true)
theorem wpAnyB_lex (hs : Region.noSelect ops = true) (hQ : ∀ d v c a w, Q (.panic c) (Act.put a d v) w → Q (.panic c) a w) (m : Nat) : ∀ (l : List Oper) (k : Nat) (listed : Array Bool) (a : Act) (w : World), (∀ j, j < l.length → l[j]? = ops[k + j]?) →
  detB md ops t l.length k listed = true → (∀ w', Ext w w' → C w') → wpDet P ops C (fun a' => wpAnyB P md ops Q t m (listN l.length k listed) a' w) l a → wpAnyB P md ops Q t (l.length + m) listed a w
 | [], _, _, _, _, _, _, _, h => by simpa [wpDet, listN] using h
 | o :: l, k, listed, a, w, hl, hB, hC, h => by
  have h0 : ops[k]? = some o := by simpa using (hl 0 (by simp)).symm
  simp only [List.length_cons, detB, Bool.and_eq_true] at hB
  obtain ⟨⟨⟨⟨⟨⟨⟨b1, b2⟩, b3⟩, b4⟩, b5⟩, b6⟩, b7⟩, b8⟩ := hB
  have hy : ∃ v, YieldsB P ops C o v a ∧ wpDet P ops C (fun a' => wpAnyB P md ops Q t m (listN l.length (k + 1) (listed.setIfInBounds k true)) a' w) l (a.put o.dst v) := by
   cases hw : Region.wanted o (yielded ops a.tmps) with
   | true =>
    obtain ⟨v, h1, h2⟩ := h.1 hw
    exact ⟨v, Or.inl ⟨hw, h1⟩, h2⟩
   | false => exact ⟨undef, Or.inr ⟨hw, rfl⟩, h.2 hw⟩
  obtain ⟨v, hy, hK⟩ := hy
  rw [List.length_cons, Nat.add_right_comm]
  have hcs : (closeB md ops k listed).size = ops.size := by simpa using b4
  refine wpAnyB_first h0 (by simpa using b3) (Region.noSelect_spec hs) hQ (closeB md ops k listed) hcs (fun j hj => by simpa using (List.all_eq_true.1 b5) j hj) (fun j hj => ?_) (l.length + m) listed a w (Region.free_spec h0 b2) (by simpa using b1) (fun j hj => ?_) hy hC
   (wpAnyB_lex hs hQ m l (k + 1) _ _ w (fun j hj => by have := hl (j + 1) (by simp; omega); simpa [Nat.add_assoc, Nat.add_comm 1 j] using this) b8 hC hK)
  ·rcases Nat.lt_or_ge j (closeB md ops k listed).size with h' | h'
   ·have := (List.all_eq_true.1 b6) j (List.mem_range.2 h')
    simp at this
    rcases this with h2 | h2
    ·omega
    ·simpa [Array.getD, h'] using h2
   ·simp [Array.getD, Nat.not_lt.2 h']
  ·rcases Nat.lt_or_ge j listed.size with h' | h'
   ·have := (List.all_eq_true.1 b7) j (List.mem_range.2 h')
    simp only [Bool.or_eq_true, Bool.not_eq_true'] at this
    rcases this with h2 | h2
    ·rw [hj] at h2; cases h2
    ·exact h2
   ·simp [Array.getD, Nat.not_lt.2 h'] at hj
theorem wp_region_from {id : Nat} {a : Act} {w : World} (d m t : Nat) (hdm : ops.size = d + m) (hm : P.follows .mixedOrders = true) (hs : Region.noSelect ops = true)
  (hQ : ∀ d v c a w, Q (.panic c) (Act.put a d v) w → Q (.panic c) a w) (hB : detB .any ops t d 0 (Array.replicate ops.size false) = true)
  (h : wpDet P ops (Ext w) (fun a' => wpAnyB P .any ops Q t m (listN d 0 (Array.replicate ops.size false)) a' w.drew) (ops.toList.take d) a) : (Code.region id ops true).wp P Q a w := by
 have hl : (ops.toList.take d).length = d := by simp; omega
 refine wp_region_any hm (wpAny_of_B (t := t) _ ?_)
 have := wpAnyB_lex (C := Ext w) (md := .any) (w := w.drew) hs hQ m (ops.toList.take d) 0 (Array.replicate ops.size false) a (fun j hj => by
  rw [hl] at hj
  rw [List.getElem?_take_of_lt hj, Nat.zero_add, Array.getElem?_toList]) (by rw [hl]; exact hB) (fun w' hw' => (Ext.drew w).trans hw') (by rw [hl]; exact h)
 rw [hl] at this
 rw [hdm] at this ⊢
 exact this
end
end
section
section
variable {P : Program} {ops : Array Oper} {Q : Exit → Act → World → Prop} {md : Region.Mode} {t : Nat} {C : World → Prop} {D : Act → Prop}
theorem det_nil {a : Act} (h : D a) : wpDet P ops C D [] a := h
theorem det_val {o : Oper} {rest : List Oper} {a : Act} (v : Value) (hw : Region.wanted o (yielded ops a.tmps) = true) (h : ∀ w, C w → (execOp a.eval o).run P w = .ok (.value v) w)
  (next : wpDet P ops C D rest (a.put o.dst v)) : wpDet P ops C D (o :: rest) a :=
 ⟨fun _ => ⟨v, fun w hw' => by unfold Oper.quietAt; rw [h w hw']; exact ⟨rfl, rfl⟩, next⟩, fun h' => by rw [hw] at h'; cases h'⟩
theorem det_move {o : Oper} {rest : List Oper} {a : Act} (x : Operand) (v : Value) (hw : Region.wanted o (yielded ops a.tmps) = true) (ho : o.op = .move x) (hx : a.eval x = v)
  (next : wpDet P ops C D rest (a.put o.dst v)) : wpDet P ops C D (o :: rest) a :=
 det_val v hw (fun w _ => by unfold execOp; simp only [ho, hx, Sem.run_pure]) next
theorem det_assign {o : Oper} {rest : List Oper} {a : Act} (x : Operand) (v : Value) (hw : Region.wanted o (yielded ops a.tmps) = true) (ho : o.op = .assign x) (hx : a.eval x = v)
  (next : wpDet P ops C D rest (a.put o.dst v)) : wpDet P ops C D (o :: rest) a :=
 det_val v hw (fun w _ => by unfold execOp; simp only [ho, hx, Sem.run_pure]) next
theorem det_load {o : Oper} {rest : List Oper} {a : Act} (ty : TypeId) (x : Operand) (c : Nat) (cs : List Value) (d : TypeDesc) (hw : Region.wanted o (yielded ops a.tmps) = true) (ho : o.op = .load ty x)
  (hx : a.eval x = .pointer (some ⟨c, 0, none⟩)) (hC : ∀ w, C w → w.rangeAt c 0 cs) (hu : P.underlying ty = some d) (hd : d.isRow = true) (hi : (P.info? ty).map (·.size) = some cs.length)
  (next : wpDet P ops C D rest (a.put o.dst (.agg cs.toArray))) : wpDet P ops C D (o :: rest) a := by
 rcases yieldsIf_load_mid (S := C) hw ty x ho c 0 hx cs d hC hu hd hi with ⟨_, h⟩ | ⟨h, _⟩
 ·exact det_val _ hw h next
 ·rw [hw] at h; cases h
theorem det_call {o : Oper} {rest : List Oper} {a : Act} (f : FuncId) (bs : Array Operand) (ts : Array TypeId) (args : List Value) (v : Value) (hw : Region.wanted o (yielded ops a.tmps) = true)
  (ho : o.op = .call { callee := .value (.func f), args := bs, argTypes := ts }) (hen : ∀ args w, (callFunc f args).run P w = .ok (.enter f args) w) (ha : bs.toList.map a.eval = args)
  (hc : ∀ w, C w → Calls P f args.toArray w fun e w' => e = .returned v ∧ Below w.heap.size w w') (next : wpDet P ops C D rest (a.put o.dst v)) : wpDet P ops C D (o :: rest) a :=
 ⟨fun _ => ⟨v, fun w hw' => by
  have hb : bs.map a.eval = args.toArray := by
   apply Array.ext'
   simpa using ha
  unfold Oper.quietAt execOp
  simp only [ho, resolve, hb, Sem.run_bind]
  simp only [Act.eval, Deferred.ofValue, Sem.run_pure, Result.andThen_ok, invoke, Array.append_empty, Array.empty_append, hen]
  exact ⟨rfl, hc w hw'⟩, next⟩, fun h' => by rw [hw] at h'; cases h'⟩
theorem det_cell {o : Oper} {rest : List Oper} {a : Act} (ty : TypeId) (x : Operand) (c k : Nat) (v : Value) (hw : Region.wanted o (yielded ops a.tmps) = true) (ho : o.op = .load ty x)
  (hx : a.eval x = .pointer (some ⟨c, k, none⟩)) (hC : ∀ w, C w → w.cell? ⟨c, k, none⟩ = some v) (ha : ∀ w, (isAgg ty).run P w = .ok false w)
  (next : wpDet P ops C D rest (a.put o.dst v)) : wpDet P ops C D (o :: rest) a :=
 det_val v hw (fun w hw' => by
  have hc := hC w hw'
  unfold execOp
  simp [ho, hx, Instr.loadAt, Instr.sureAddr, loadVar, ha, hc]) next
theorem det_mul {o : Oper} {rest : List Oper} {a : Act} (ty rt : TypeId) (x y : Operand) (k : IntKind) (m n r : Int) (hw : Region.wanted o (yielded ops a.tmps) = true) (ho : o.op = .binOp .mul ty x y rt) (hx : a.eval x = .int k m) (hy : a.eval y = .int k n) (hr : k.wrap (m * n) = r)
  (next : wpDet P ops C D rest (a.put o.dst (.int k r))) : wpDet P ops C D (o :: rest) a :=
 det_val _ hw (fun w _ => by unfold execOp; simp [ho, hx, hy, eqGuard, binOp, Op.intArith, hr]) next
theorem det_add {o : Oper} {rest : List Oper} {a : Act} (ty rt : TypeId) (x y : Operand) (k : IntKind) (m n r : Int) (hw : Region.wanted o (yielded ops a.tmps) = true) (ho : o.op = .binOp .add ty x y rt) (hx : a.eval x = .int k m) (hy : a.eval y = .int k n) (hr : k.wrap (m + n) = r)
  (next : wpDet P ops C D rest (a.put o.dst (.int k r))) : wpDet P ops C D (o :: rest) a :=
 det_val _ hw (fun w _ => by unfold execOp; simp [ho, hx, hy, eqGuard, binOp, Op.intArith, hr]) next
theorem det_and {o : Oper} {rest : List Oper} {a : Act} (ty rt : TypeId) (x y : Operand) (k : IntKind) (m n r : Int) (hw : Region.wanted o (yielded ops a.tmps) = true) (ho : o.op = .binOp .and ty x y rt) (hx : a.eval x = .int k m) (hy : a.eval y = .int k n) (hr : bits .and k m n = r)
  (next : wpDet P ops C D rest (a.put o.dst (.int k r))) : wpDet P ops C D (o :: rest) a :=
 det_val _ hw (fun w _ => by rw [← hr]; unfold execOp bits; simp [ho, hx, hy, eqGuard, binOp, Op.intBits]) next
theorem det_or {o : Oper} {rest : List Oper} {a : Act} (ty rt : TypeId) (x y : Operand) (k : IntKind) (m n r : Int) (hw : Region.wanted o (yielded ops a.tmps) = true) (ho : o.op = .binOp .or ty x y rt) (hx : a.eval x = .int k m) (hy : a.eval y = .int k n) (hr : bits .or k m n = r)
  (next : wpDet P ops C D rest (a.put o.dst (.int k r))) : wpDet P ops C D (o :: rest) a :=
 det_val _ hw (fun w _ => by rw [← hr]; unfold execOp bits; simp [ho, hx, hy, eqGuard, binOp, Op.intBits]) next
theorem det_xor {o : Oper} {rest : List Oper} {a : Act} (ty rt : TypeId) (x y : Operand) (k : IntKind) (m n r : Int) (hw : Region.wanted o (yielded ops a.tmps) = true) (ho : o.op = .binOp .xor ty x y rt) (hx : a.eval x = .int k m) (hy : a.eval y = .int k n) (hr : bits .xor k m n = r)
  (next : wpDet P ops C D rest (a.put o.dst (.int k r))) : wpDet P ops C D (o :: rest) a :=
 det_val _ hw (fun w _ => by rw [← hr]; unfold execOp bits; simp [ho, hx, hy, eqGuard, binOp, Op.intBits]) next
theorem det_index {o : Oper} {rest : List Oper} {a : Act} (ty e : TypeId) (x y : Operand) (c n : Nat) (j : Nat) (hw : Region.wanted o (yielded ops a.tmps) = true) (ho : o.op = .indexAddr ty x y) (hx : a.eval x = .pointer (some ⟨c, 0, none⟩)) (hy : a.eval y = .int .i64 (j : Int))
  (hu : P.underlying ty = some (.array n e)) (hj : j < n) (hs : ∀ w, (sizeOf e).run P w = .ok 1 w)
  (next : wpDet P ops C D rest (a.put o.dst (.pointer (some ⟨c, j, none⟩)))) : wpDet P ops C D (o :: rest) a :=
 det_val _ hw (fun w _ => by
  have h1 : (0 : Int) ≤ (j : Int) ∧ (j : Int) < (n : Int) := by omega
  unfold execOp
  simp [ho, hx, hy, Instr.indexAt, asIntOf, run_underlying hu, Instr.sureAddr, h1, hs, Addr.add_mid, hj]) next
theorem det_field {o : Oper} {rest : List Oper} {a : Act} (ty : TypeId) (x : Operand) (c f j : Nat) (hw : Region.wanted o (yielded ops a.tmps) = true) (ho : o.op = .fieldAddr ty x f) (hx : a.eval x = .pointer (some ⟨c, 0, none⟩))
  (hr : ∀ w, (Instr.fieldAt ty (.pointer (some ⟨c, 0, none⟩)) f).run P w = .ok (.pointer (some ⟨c, j, none⟩)) w)
  (next : wpDet P ops C D rest (a.put o.dst (.pointer (some ⟨c, j, none⟩)))) : wpDet P ops C D (o :: rest) a :=
 det_val _ hw (fun w _ => by unfold execOp; simp only [ho, hx, Sem.run_bind, hr, Result.andThen_ok, Sem.run_pure]) next
theorem run_eqItems_bytes {e : TypeId} {i : TypeInfo} (he : P.underlying e = some (.int .u8)) (hi : P.info? e = some i) (d : Nat) (xs ys : List UInt8) (w : World) : ∀ is : List Nat, (∀ j ∈ is, j < xs.length ∧ j < ys.length) →
  (Op.eqItems (d + 1) e 1 (xs.map bval).toArray (ys.map bval).toArray is).run P w = .ok (is.all fun j => decide (xs.getD j 0 = ys.getD j 0)) w
 | [], _ => by simp [Op.eqItems]
 | j :: is, h => by
  obtain ⟨g1, g2⟩ := h j (List.mem_cons_self ..)
  have ih := run_eqItems_bytes he hi d xs ys w is (fun k hk => h k (List.mem_cons_of_mem _ hk))
  have p1 : ∀ zs : List UInt8, j < zs.length → (part e (zs.map bval).toArray (j * 1)).run P w = .ok (bval (zs.getD j 0)) w := by
   intro zs hz
   simp [part, isAgg, run_underlying he, hz, List.getD]
  simp only [Op.eqItems, Sem.run_bind, p1 xs g1, p1 ys g2, Result.andThen_ok, Op.equalIn, run_underlying he]
  have hbv : ∀ z : UInt8, bval z = .int .u8 (z.toNat : Int) := fun _ => rfl
  simp only [hbv]
  by_cases hq : xs.getD j 0 = ys.getD j 0
  ·simp only [hq, if_true, beq_self_eq_true, Sem.run_pure, Result.andThen_ok, Bool.not_true, Bool.false_eq_true, if_false, ih, List.all_cons, decide_true, Bool.true_and]
  ·have hb : (((xs.getD j 0).toNat : Int) == ((ys.getD j 0).toNat : Int)) = false := by
    rw [beq_eq_false_iff_ne]
    intro h'
    exact hq (UInt8.toNat_inj.1 (by omega))
   simp only [if_true, hb, Sem.run_pure, Result.andThen_ok, Bool.not_false, List.all_cons, hq, decide_false, Bool.false_and]
theorem run_equal_bytes {ty e : TypeId} {n : Nat} {i : TypeInfo} (hu : P.underlying ty = some (.array n e)) (he : P.underlying e = some (.int .u8)) (hi : P.info? e = some i) (hc : P.cellsOf e = 1) (xs ys : List UInt8) (hx : xs.length = n) (hy : ys.length = n) (w : World) :
  (Op.equal ty (.agg (xs.map bval).toArray) (.agg (ys.map bval).toArray)).run P w = .ok (decide (xs = ys)) w := by
 have h1 := run_equalIn_array (P := P) w 9999 (xs.map bval).toArray (ys.map bval).toArray hu hi
 rw [hc, run_eqItems_bytes he hi 9998 xs ys w (List.range n) (fun j hj => by have := List.mem_range.1 hj; omega)] at h1
 refine Eq.trans h1 ?_
 congr 1
 rw [Bool.eq_iff_iff, List.all_eq_true, decide_eq_true_iff]
 constructor
 ·intro h
  apply List.ext_getElem (by omega)
  intro k hk1 hk2
  have := h k (List.mem_range.2 (by omega))
  simpa [List.getD, hk1, hk2] using this
 ·rintro rfl j _
  simp
theorem end_none {listed : Array Bool} {a : Act} {w : World} (hr : Region.ready md ops listed = []) (h : ∀ w', Ext w w' → Q .normal a w') : wpAnyB P md ops Q t 0 listed a w.drew :=
 fun w' hw' => ⟨hr, h w' ((Ext.drew w).trans hw')⟩
theorem end_store {k : Nat} {o : Oper} {listed : Array Bool} {a : Act} {w : World} (hk : ops[k]? = some o) (hr : Region.ready md ops listed = [k]) (hr2 : Region.ready md ops (listed.setIfInBounds k true) = []) (hd : doneB t listed = true) (hg : o.guard = none)
  (h : ∀ w', Ext w w' → o.wp P a w' (fun a' w'' => Q .normal a' w'') Q) : wpAnyB P md ops Q t 1 listed a w.drew := by
 refine ⟨fun _ w' hw' => ⟨fun h0 => (by rw [hr] at h0; cases h0), fun i hi => ?_⟩, fun h0 => (by rw [hd] at h0; cases h0)⟩
 rw [hr] at hi
 obtain rfl : i = k := by simpa using hi
 unfold wpOp
 simp only [hk, Region.wanted, hg, if_true]
 exact Or.inl (Oper.wp_mono (fun a' w'' h' => ⟨hr2, h'⟩) (h w' ((Ext.drew w).trans hw')))
theorem end_alloc {k : Nat} {o1 o2 : Oper} {listed : Array Bool} {a : Act} {w : World} (hk : ops[k]? = some o1) (hk2 : ops[k + 1]? = some o2) (hr : Region.ready md ops listed = [k]) (hr2 : Region.ready md ops (listed.setIfInBounds k true) = [k + 1])
  (hr3 : Region.ready md ops ((listed.setIfInBounds k true).setIfInBounds (k + 1) true) = []) (hd : doneB t listed = false) (hd2 : doneB t (listed.setIfInBounds k true) = true) (hg : o1.guard = none) (hg2 : o2.guard = none)
  (h : ∀ w', Ext w w' → o1.wp P a w' (fun a' w'' => Ext w' w'' ∧ ∀ w3, Ext w'' w3 → o2.wp P a' w3 (fun a'' w4 => Q .normal a'' w4) Q) Q) : wpAnyB P md ops Q t 2 listed a w.drew := by
 refine ⟨fun h0 => (by rw [hd] at h0; cases h0), fun _ w' hw' => ⟨by rw [hr]; simp, fun i hi => ?_⟩⟩
 rw [hr] at hi
 obtain rfl : i = k := by simpa using hi
 unfold wpOp
 simp only [hk, Region.wanted, hg, if_true]
 refine Or.inl (Oper.wp_mono (fun a' w'' h' => ⟨h'.1, ?_⟩) (h w' ((Ext.drew w).trans hw')))
 refine ⟨fun _ w3 hw3 => ⟨fun h0 => (by rw [hr2] at h0; cases h0), fun j hj => ?_⟩, fun h0 => (by rw [hd2] at h0; cases h0)⟩
 rw [hr2] at hj
 obtain rfl : j = i + 1 := by simpa using hj
 unfold wpOp
 simp only [hk2, Region.wanted, hg2, if_true]
 exact Or.inl (Oper.wp_mono (fun a'' w4 h4 => ⟨hr3, h4⟩) (h'.2 w3 hw3))
theorem end_set {k : Nat} {o : Oper} {listed : Array Bool} {a : Act} {w : World} (ty tb : TypeId) (x y : Operand) (c : Nat) (vs cs : List Value) (hk : ops[k]? = some o) (hr : Region.ready md ops listed = [k]) (hr2 : Region.ready md ops (listed.setIfInBounds k true) = []) (hd : doneB t listed = true) (hg : o.guard = none)
  (ho : o.op = .store ty x y) (hx : a.eval x = .pointer (some ⟨c, 0, none⟩)) (hy : a.eval y = .agg vs.toArray) (hb : Blk w c cs tb) (hl : vs.length = cs.length) (hi : (P.info? ty).map (·.size) = some vs.length) (h1 : ∀ v ∈ vs, v.oneCell' = true)
  (h : ∀ w', Blk w' c vs tb → w.grownBy w' (some c) → Q .normal (a.put o.dst undef) w') : wpAnyB P md ops Q t 1 listed a w.drew :=
 end_store hk hr hr2 hd hg fun w' hw' => wp_store_blk ty x y ho c vs hx hy tb cs (hb.same (hw'.block _ hb.lt)) hl hi h1 fun w4 hb4 hg4 => h w4 hb4 (grownBy_trans (grown_of_below hw' _) hg4)
theorem end_var {k : Nat} {o1 o2 : Oper} {listed : Array Bool} {a : Act} {w : World} (ty : TypeId) (d : Nat) (y : Operand) (zs vs : List Value) (hk : ops[k]? = some o1) (hk2 : ops[k + 1]? = some o2) (hr : Region.ready md ops listed = [k]) (hr2 : Region.ready md ops (listed.setIfInBounds k true) = [k + 1])
  (hr3 : Region.ready md ops ((listed.setIfInBounds k true).setIfInBounds (k + 1) true) = []) (hd : doneB t listed = false) (hd2 : doneB t (listed.setIfInBounds k true) = true) (hg : o1.guard = none) (hg2 : o2.guard = none)
  (ho : o1.op = .alloc ty) (hdst : o1.dst = some d) (hz : ∀ w, (zeroValue ty).run P w = .ok (.agg zs.toArray) w)
  (ho2 : o2.op = .store ty (.tmp d) y) (hd' : d < a.tmps.size) (hy : ∀ p, (a.put (some d) (.pointer (some ⟨p, 0, none⟩))).eval y = .agg vs.toArray) (hl : vs.length = zs.length) (hi : (P.info? ty).map (·.size) = some vs.length) (h1 : ∀ v ∈ vs, v.oneCell' = true)
  (h : ∀ p w', w.heap.size ≤ p → Blk w' p vs ty → Ext w w' → Q .normal ((a.put (some d) (.pointer (some ⟨p, 0, none⟩))).put o2.dst undef) w') : wpAnyB P md ops Q t 2 listed a w.drew := by
 have hal : ∀ w, (execOp a.eval o1).run P w = .ok (.value (.pointer (some ⟨w.heap.size, 0, none⟩))) (w.alloc (.cells zs.toArray ty)) := fun w => by
  unfold execOp
  simp [ho, Instr.alloc, hz, newVar, newRow, Value.cells]
 refine end_alloc hk hk2 hr hr2 hr3 hd hd2 hg hg2 fun w' hw' => ?_
 unfold Oper.wp
 rw [hal w']
 simp only [Oper.upon, hdst]
 refine ⟨Ext.alloc _ _, fun w3 hw3 => ?_⟩
 have hb : Blk w3 w'.heap.size zs ty := (Blk.made w' zs ty).same (hw3.block _ (Blk.made w' zs ty).lt)
 refine wp_store_blk ty (.tmp d) y ho2 w'.heap.size vs ?_ (hy _) ty zs hb hl hi h1 fun w4 hb4 hg4 => h _ w4 hw'.size hb4 ?_
 ·simp [Act.eval, Act.put, Array.getD, hd']
 ·exact Below.grown (hw'.trans ((Ext.alloc w' _).trans hw3)) hg4 (hw'.trans ((Ext.alloc w' _).trans hw3)).size (fun r hr => by cases hr; exact hw'.size)
theorem result_row {w : World} {fn : Func} {p : Tmp} {ty : TypeId} (h : fn.results = #[.cell p ty]) (tmps : Array Value) (c : Nat) (tb : TypeId) (cs : List Value) (d : TypeDesc)
  (hp : tmps.getD p undef = .pointer (some ⟨c, 0, none⟩)) (hb : Blk w c cs tb) (hu : P.underlying ty = some d) (hd : d.isRow = true) (hi : (P.info? ty).map (·.size) = some cs.length) :
  (results fn tmps).run P w = .ok (.agg cs.toArray) w :=
 results_cell_row h tmps w c tb cs.toArray (0, 0) d hp hb hu (by cases d <;> simp_all [TypeDesc.isRow]) (by simpa using hi)
theorem ext_blk {w w' : World} {c : Nat} {cs : List Value} {tb : TypeId} (h : Blk w c cs tb) (hb : Ext w w') : Blk w' c cs tb := h.same (hb.block _ h.lt)
theorem ext_range {w w' : World} {c : Nat} {cs : List Value} {tb : TypeId} (h : Blk w c cs tb) (hb : Ext w w') : w'.rangeAt c 0 cs := (ext_blk h hb).range
theorem ext_grown {a b d : World} {c : Nat} (h : Ext a b) (hg : b.grownBy d (some c)) (hc : a.heap.size ≤ c) : Ext a d := Below.grown h hg h.size (fun k hk => by cases hk; exact hc)
end
end
section
theorem getD_set_same {zs : List Int} {i : Nat} {z : Int} (h : i < zs.length) : (zs.set i z).getD i 0 = z := by simp [List.getD, h]
theorem getD_set_far {zs : List Int} {i j : Nat} {z : Int} (h : i ≠ j) : (zs.set i z).getD j 0 = zs.getD j 0 := by simp [List.getD, List.getElem?_set_ne h]
def leN : List UInt8 → Nat
 | [] => 0
 | b :: r => b.toNat + 256 * leN r
theorem bytes32 (l : List UInt8) (h : l.length = 32) : l = [l.getD 0 0, l.getD 1 0, l.getD 2 0, l.getD 3 0, l.getD 4 0, l.getD 5 0, l.getD 6 0, l.getD 7 0, l.getD 8 0, l.getD 9 0, l.getD 10 0, l.getD 11 0, l.getD 12 0, l.getD 13 0, l.getD 14 0, l.getD 15 0,
  l.getD 16 0, l.getD 17 0, l.getD 18 0, l.getD 19 0, l.getD 20 0, l.getD 21 0, l.getD 22 0, l.getD 23 0, l.getD 24 0, l.getD 25 0, l.getD 26 0, l.getD 27 0, l.getD 28 0, l.getD 29 0, l.getD 30 0, l.getD 31 0] := by
 match l, h with
 | [_, _, _, _, _, _, _, _, _, _, _, _, _, _, _, _, _, _, _, _, _, _, _, _, _, _, _, _, _, _, _, _], _ => rfl
theorem bval_get {l : List UInt8} {i : Nat} (h : i < l.length) : (l.map bval)[i]? = some (.int .u8 ((l.getD i 0).toNat : Int)) := by
 simp [bval, List.getD, h]
def bytesN : Nat → Nat → List UInt8
 | 0, _ => []
 | k + 1, n => UInt8.ofNat (n % 256) :: bytesN k (n / 256)
theorem bytesN_leN : ∀ (l : List UInt8), bytesN l.length (leN l) = l
 | [] => rfl
 | b :: r => by
  have hb := b.toNat_lt
  have e1 : (b.toNat + 256 * leN r) % 256 = b.toNat := by omega
  have e2 : (b.toNat + 256 * leN r) / 256 = leN r := by omega
  simp only [leN, List.length_cons, bytesN, e1, e2, bytesN_leN r]
  congr 1
  simp
theorem bytesN_length : ∀ (k n : Nat), (bytesN k n).length = k
 | 0, _ => rfl
 | k + 1, n => by simp [bytesN, bytesN_length k]
theorem leN_bytesN : ∀ (k n : Nat), leN (bytesN k n) = n % 256 ^ k
 | 0, n => by simp [bytesN, leN, Nat.mod_one]
 | k + 1, n => by
  have := leN_bytesN k (n / 256)
  have e1 : (UInt8.ofNat (n % 256)).toNat = n % 256 := by
   rw [UInt8.toNat_ofNat']
   omega
  simp only [bytesN, leN, this, e1, Nat.pow_succ]
  rw [Nat.mul_comm (256 ^ k) 256, Nat.mod_mul]
theorem bytesN_append : ∀ (m n x : Nat), bytesN (m + n) x = bytesN m x ++ bytesN n (x / 256 ^ m)
 | 0, n, x => by simp [bytesN]
 | m + 1, n, x => by
  rw [Nat.add_right_comm]
  simp only [bytesN, List.cons_append]
  rw [bytesN_append m n (x / 256), Nat.div_div_eq_div_mul, Nat.pow_succ, Nat.mul_comm 256]
theorem bytesN_mod : ∀ (m x : Nat), bytesN m (x % 256 ^ m) = bytesN m x
 | 0, _ => rfl
 | m + 1, x => by
  have e1 : x % 256 ^ (m + 1) % 256 = x % 256 := Nat.mod_mod_of_dvd _ ⟨256 ^ m, by rw [Nat.pow_succ, Nat.mul_comm]⟩
  have e2 : x % 256 ^ (m + 1) / 256 = x / 256 % 256 ^ m := by rw [Nat.pow_succ, Nat.mul_comm, Nat.mod_mul_right_div_self]
  simp only [bytesN, e1, e2, bytesN_mod m]
theorem leN_lt : ∀ (l : List UInt8), leN l < 256 ^ l.length
 | [] => by simp [leN]
 | b :: r => by
  have hb := b.toNat_lt
  have := leN_lt r
  simp only [leN, List.length_cons, Nat.pow_succ]
  omega
theorem andU1 (n : Nat) : bits .and .u8 (n : Int) 1 = ((n % 2 : Nat) : Int) := by
 have h : (BitVec.ofInt 8 1).toNat = 2 ^ 1 - 1 := by decide
 have key : (BitVec.ofInt 8 (n : Int) &&& BitVec.ofInt 8 1).toNat = ((n : Int) % ((2 ^ 8 : Nat) : Int)).toNat % 2 ^ 1 := by
  rw [BitVec.toNat_and, BitVec.toNat_ofInt, h, Nat.and_two_pow_sub_one_eq_mod]
 show IntKind.u8.wrap ((BitVec.ofInt 8 (n : Int) &&& BitVec.ofInt 8 1).toNat : Nat) = _
 rw [key, IntKind.wrap_u8]
 omega
theorem leN_bit : ∀ (l : List UInt8) (i : Nat), i < 8 * l.length → leN l / 2 ^ i % 2 = (l.getD (i / 8) 0).toNat / 2 ^ (i % 8) % 2
 | [], i, h => by simp at h
 | b :: r, i, h => by
  rcases Nat.lt_or_ge i 8 with h8 | h8
  ·have e1 : i / 8 = 0 := by omega
   have e2 : i % 8 = i := by omega
   rw [e1, e2]
   simp only [leN, List.getD_cons_zero]
   generalize leN r = R
   generalize b.toNat = c
   rcases (by omega : i = 0 ∨ i = 1 ∨ i = 2 ∨ i = 3 ∨ i = 4 ∨ i = 5 ∨ i = 6 ∨ i = 7) with rfl | rfl | rfl | rfl | rfl | rfl | rfl | rfl <;> simp only [Nat.reducePow] <;> omega
  ·obtain ⟨j, rfl⟩ : ∃ j, i = 8 + j := ⟨i - 8, by omega⟩
   have hb := b.toNat_lt
   have e1 : (8 + j) / 8 = j / 8 + 1 := by omega
   have e2 : (8 + j) % 8 = j % 8 := by omega
   rw [e1, e2, List.getD_cons_succ, ← leN_bit r j (by rw [List.length_cons] at h; omega), Nat.pow_add, ← Nat.div_div_eq_div_mul]
   congr 2
   simp only [leN]
   omega
theorem w64 {a : Nat} (ha : a < 18446744073709551616) : IntKind.u64.wrap (a : Int) = (a : Int) := by rw [IntKind.wrap_u64]; omega
theorem w64m (a : Nat) : IntKind.u64.wrap (a : Int) = ((a % 18446744073709551616 : Nat) : Int) := by rw [IntKind.wrap_u64]; omega
theorem natMul (a b : Nat) : (a : Int) * (b : Int) = ((a * b : Nat) : Int) := (Int.natCast_mul a b).symm
theorem natAdd (a b : Nat) : (a : Int) + (b : Int) = ((a + b : Nat) : Int) := (Int.natCast_add a b).symm
theorem or64 (a b : Nat) (ha : a < 18446744073709551616) (hb : b < 18446744073709551616) : bits .or .u64 (a : Int) (b : Int) = ((a ||| b : Nat) : Int) := by
 have e1 : (BitVec.ofInt 64 (a : Int)).toNat = a := by rw [BitVec.toNat_ofInt]; omega
 have e2 : (BitVec.ofInt 64 (b : Int)).toNat = b := by rw [BitVec.toNat_ofInt]; omega
 show IntKind.u64.wrap ((BitVec.ofInt 64 (a : Int) ||| BitVec.ofInt 64 (b : Int)).toNat : Nat) = _
 have e3 := (BitVec.ofInt 64 (a : Int) ||| BitVec.ofInt 64 (b : Int)).isLt
 rw [BitVec.toNat_or, e1, e2] at e3 ⊢
 exact w64 e3
theorem or_sum (k x y : Nat) (hx : x < 2 ^ k) : 2 ^ k * y ||| x = 2 ^ k * y + x := (Nat.two_pow_add_eq_or_of_lt hx y).symm
theorem bl_range {w w' : World} {c : Nat} {cs : List Value} {t : TypeId} (h : Blk w c cs t) (hb : Below w.heap.size w w') : w'.rangeAt c 0 cs := (h.same (hb.block _ h.lt)).range
def smL (n : UInt8) : List UInt8 := n :: List.replicate 31 0
theorem smL_length (n : UInt8) : (smL n).length = 32 := by simp [smL]
theorem leN_zeros : ∀ k, leN (List.replicate k 0) = 0
 | 0 => rfl
 | k + 1 => by rw [List.replicate_succ, leN, leN_zeros k]; rfl
def zer : List UInt8 := List.replicate 32 0
theorem zer_length : zer.length = 32 := by simp [zer]
theorem leN_zer : leN zer = 0 := leN_zeros 32
def zero32 : List Value := ints .u8 (List.replicate 32 0)
section
variable {P : Program}
theorem result_row_tmp {w : World} {fn : Func} {p u : Tmp} {ty : TypeId} (h : fn.results = #[.cell p ty, .tmp u]) (tmps : Array Value) (c : Nat) (tb : TypeId) (cs : List Value) (d : TypeDesc)
  (hp : tmps.getD p undef = .pointer (some ⟨c, 0, none⟩)) (hb : Blk w c cs tb) (hu : P.underlying ty = some d) (hd : d.isRow = true) (hi : (P.info? ty).map (·.size) = some cs.length) :
  (results fn tmps).run P w = .ok (.tuple #[.agg cs.toArray, tmps.getD u undef]) w := by
 rw [results_cell_tmp h, hp]
 simp only [asAddr, Sem.run_pure, Result.andThen_ok, run_loadVar_mid w c 0 ty cs d hb.range hu hd hi]
end
end
def gV (B : Int) : List Int → Int
 | [] => 0
 | z :: r => z + B * gV B r
theorem gV_set (B : Int) : ∀ (zs : List Int) (i : Nat) (z : Int), i < zs.length → gV B (zs.set i z) = gV B zs + (z - zs.getD i 0) * B ^ i
 | [], i, z, h => by simp at h
 | a :: r, 0, z, h => by simp [gV]; omega
 | a :: r, i + 1, z, h => by
  have := gV_set B r i z (by simpa using h)
  simp only [List.set_cons_succ, gV, this, List.getD_cons_succ, Int.pow_succ]
  grind
theorem gV_append (B : Int) : ∀ (a b : List Int), gV B (a ++ b) = gV B a + B ^ a.length * gV B b
 | [], b => by simp [gV]
 | z :: r, b => by
  simp only [List.cons_append, gV, gV_append B r b, List.length_cons, Int.pow_succ]
  grind
theorem gV_cut (B : Int) (zs : List Int) (d : Nat) (h : d ≤ zs.length) : gV B zs = gV B (zs.take d) + B ^ d * gV B (zs.drop d) := by
 have := gV_append B (zs.take d) (zs.drop d)
 rw [List.take_append_drop, List.length_take, Nat.min_eq_left h] at this
 exact this
theorem gV_take_succ (B : Int) (zs : List Int) (k : Nat) (h : k < zs.length) : gV B (zs.take (k + 1)) = gV B (zs.take k) + zs.getD k 0 * B ^ k := by
 rw [List.take_succ_eq_append_getElem h, gV_append, List.length_take, Nat.min_eq_left (by omega)]
 simp only [gV, List.getD, List.getElem?_eq_getElem h, Option.getD_some]
 grind
theorem gV_zeros (B : Int) : ∀ (n : Nat), gV B (List.replicate n 0) = 0
 | 0 => rfl
 | n + 1 => by simp [List.replicate_succ, gV, gV_zeros B n]
theorem gV_range {B : Int} (hB : 0 < B) : ∀ {zs : List Int}, (∀ i, i < zs.length → 0 ≤ zs.getD i 0 ∧ zs.getD i 0 < B) → 0 ≤ gV B zs ∧ gV B zs < B ^ zs.length
 | [], _ => by simp [gV]
 | z :: r, h => by
  have h0 : 0 ≤ z ∧ z < B := h 0 (by simp)
  have h1 := gV_range hB (zs := r) (fun i hi => by have := h (i + 1) (by simpa using hi); simpa using this)
  obtain ⟨p1, p2⟩ := h1
  have q1 : 0 ≤ B * gV B r := Int.mul_nonneg (by omega) p1
  have q2 : B * (gV B r + 1) ≤ B * B ^ r.length := Int.mul_le_mul_of_nonneg_left (by omega) (by omega)
  rw [Int.mul_add, Int.mul_one] at q2
  simp only [gV, List.length_cons, Int.pow_succ]
  rw [Int.mul_comm (B ^ r.length) B]
  omega
theorem gV_inj {B : Int} (hB : 0 < B) : ∀ {xs ys : List Int}, xs.length = ys.length → (∀ i, i < xs.length → 0 ≤ xs.getD i 0 ∧ xs.getD i 0 < B) → (∀ i, i < ys.length → 0 ≤ ys.getD i 0 ∧ ys.getD i 0 < B) → gV B xs = gV B ys → xs = ys
 | [], [], _, _, _, _ => rfl
 | [], _ :: _, h, _, _, _ => by simp at h
 | _ :: _, [], h, _, _, _ => by simp at h
 | x :: r, y :: s, hl, h1, h2, he => by
  have a1 : 0 ≤ x ∧ x < B := h1 0 (by simp)
  have a2 : 0 ≤ y ∧ y < B := h2 0 (by simp)
  simp only [gV] at he
  have e1 : (x + B * gV B r) % B = x := by rw [Int.add_mul_emod_self_left, Int.emod_eq_of_lt a1.1 a1.2]
  have e2 : (y + B * gV B s) % B = y := by rw [Int.add_mul_emod_self_left, Int.emod_eq_of_lt a2.1 a2.2]
  have e3 : x = y := by rw [← e1, ← e2, he]
  subst e3
  have e4 : gV B r = gV B s := Int.eq_of_mul_eq_mul_left (by omega : B ≠ 0) (by omega)
  rw [gV_inj hB (by simpa using hl) (fun i hi => by have := h1 (i + 1) (by simpa using hi); simpa using this) (fun i hi => by have := h2 (i + 1) (by simpa using hi); simpa using this) e4]
theorem getD_eq {zs : List Int} {i : Nat} (h : i < zs.length) : zs.getD i 0 = zs[i] := by simp [List.getD, h]
theorem getD_out {zs : List Int} {i : Nat} (h : zs.length ≤ i) : zs.getD i 0 = 0 := by simp [List.getD, h]
theorem getD_take {zs : List Int} {i d : Nat} (h : i < d) : (zs.take d).getD i 0 = zs.getD i 0 := by simp [List.getD, List.getElem?_take, h]
theorem getD_drop {zs : List Int} {i d : Nat} : (zs.drop d).getD i 0 = zs.getD (d + i) 0 := by simp [List.getD, List.getElem?_drop]
theorem ext_getD {xs ys : List Int} (hl : xs.length = ys.length) (h : ∀ i, i < xs.length → xs.getD i 0 = ys.getD i 0) : xs = ys := by
 apply List.ext_getElem hl
 intro i h1 h2
 have := h i h1
 rwa [getD_eq h1, getD_eq h2] at this
theorem gV_div {B : Int} (hB : 0 < B) {zs : List Int} {d : Nat} (hd : d ≤ zs.length) (h : ∀ i, i < d → 0 ≤ zs.getD i 0 ∧ zs.getD i 0 < B) : gV B zs / B ^ d = gV B (zs.drop d) := by
 have hr := gV_range hB (zs := zs.take d) (fun i hi => by
  have hi2 : i < d := by simp at hi; omega
  rw [getD_take hi2]
  exact h i hi2)
 rw [List.length_take, Nat.min_eq_left hd] at hr
 have hp : 0 < B ^ d := Int.pow_pos hB
 rw [gV_cut B zs d hd, Int.add_mul_ediv_left _ _ (by omega), Int.ediv_eq_zero_of_lt hr.1 hr.2, Int.zero_add]
theorem Blk.seti {w : World} {c : Nat} {k : IntKind} {zs : List Int} {t : TypeId} (h : Blk w c (ints k zs) t) (i : Nat) (z : Int) : Blk (w.setCell ⟨c, i, none⟩ (.int k z)) c (ints k (zs.set i z)) t := by
 rw [← ints_set]
 exact h.set i _
def dig (n x : Nat) : List Int := (bytesN n x).map fun b => (b.toNat : Int)
theorem dig_length (n x : Nat) : (dig n x).length = n := by simp [dig, bytesN_length]
theorem gV_bytes : ∀ (l : List UInt8), gV 256 (l.map fun b => (b.toNat : Int)) = (leN l : Nat)
 | [] => rfl
 | b :: r => by
  simp only [List.map_cons, gV, gV_bytes r, leN]
  omega
theorem gV_dig (n x : Nat) : gV 256 (dig n x) = ((x % 256 ^ n : Nat) : Int) := by
 unfold dig
 rw [gV_bytes, leN_bytesN]
theorem byte_digits (l : List UInt8) : ∀ i, i < (l.map fun b => (b.toNat : Int)).length → 0 ≤ (l.map fun b => (b.toNat : Int)).getD i 0 ∧ (l.map fun b => (b.toNat : Int)).getD i 0 < 256 := by
 intro i hi
 have hi2 : i < l.length := by simpa using hi
 rw [getD_eq hi, List.getElem_map]
 have := l[i].toNat_lt
 omega
theorem dig_digits (n x : Nat) : ∀ i, i < n → 0 ≤ (dig n x).getD i 0 ∧ (dig n x).getD i 0 < 256 := by
 intro i hi
 exact byte_digits (bytesN n x) i (by simp [bytesN_length, hi])
theorem dig_of {zs : List Int} {n x : Nat} (hl : zs.length = n) (h : ∀ i, i < n → 0 ≤ zs.getD i 0 ∧ zs.getD i 0 < 256) (hv : gV 256 zs = (x : Int)) : zs = dig n x := by
 have hr := gV_range (B := 256) (by omega) (zs := zs) (fun i hi => h i (by omega))
 have hx : x < 256 ^ n := by
  have h1 := hr.2
  rw [hv, hl] at h1
  have e : ((256 : Int) ^ n) = ((256 ^ n : Nat) : Int) := by simp
  rw [e] at h1
  omega
 refine gV_inj (B := 256) (by omega) (by rw [dig_length, hl]) (fun i hi => h i (by omega)) (fun i hi => dig_digits n x i (by rwa [dig_length] at hi)) ?_
 rw [gV_dig, Nat.mod_eq_of_lt hx, hv]
theorem bytesN_getD : ∀ (n x i : Nat), i < n → ((bytesN n x).getD i 0).toNat = x / 256 ^ i % 256
 | 0, _, _, h => by omega
 | n + 1, x, 0, _ => by
  simp only [bytesN, List.getD_cons_zero, Nat.pow_zero, Nat.div_one]
  rw [UInt8.toNat_ofNat']
  omega
 | n + 1, x, i + 1, h => by
  simp only [bytesN, List.getD_cons_succ]
  rw [bytesN_getD n (x / 256) i (by omega), Nat.div_div_eq_div_mul, Nat.pow_succ, Nat.mul_comm 256]
def fill (n : Nat) (l : List UInt8) (k : Nat) : List UInt8 := l.take k ++ List.replicate (n - k) 0
theorem fill_zero (n : Nat) (l : List UInt8) : fill n l 0 = List.replicate n 0 := by simp [fill]
theorem fill_full {n : Nat} {l : List UInt8} (h : l.length = n) : fill n l n = l := by simp [fill, ← h]
theorem fill_length {n k : Nat} {l : List UInt8} (h : l.length = n) (hk : k ≤ n) : (fill n l k).length = n := by simp [fill]; omega
theorem fill_set {n k : Nat} {l : List UInt8} (h : l.length = n) (hk : k < n) : (fill n l k).set k (l.getD k 0) = fill n l (k + 1) := by
 unfold fill
 have e1 : (l.take k).length = k := by simp; omega
 have e2 : n - k = (n - (k + 1)) + 1 := by omega
 have hk2 : k < l.length := by omega
 have e3 : l.getD k 0 = l[k] := by simp [List.getD, hk2]
 rw [List.set_append_right _ _ (by omega), e1, Nat.sub_self, e2, List.replicate_succ, List.set_cons_zero, e3, List.take_succ_eq_append_getElem hk2, List.append_assoc]
 rfl
theorem fill_set_val {n k : Nat} {l : List UInt8} (h : l.length = n) (hk : k < n) {z : Int} (hz : z = ((l.getD k 0).toNat : Int)) : ((fill n l k).map bval).set k (.int .u8 z) = (fill n l (k + 1)).map bval := by
 subst hz
 have : Value.int .u8 ((l.getD k 0).toNat : Int) = bval (l.getD k 0) := rfl
 rw [this, ← List.map_set, fill_set h hk]
theorem or_i64 (a b : Nat) (ha : a < 9223372036854775808) (hb : b < 9223372036854775808) : bits .or .i64 (a : Int) (b : Int) = ((a ||| b : Nat) : Int) := by
 have e1 : (BitVec.ofInt 64 (a : Int)).toNat = a := by rw [BitVec.toNat_ofInt]; omega
 have e2 : (BitVec.ofInt 64 (b : Int)).toNat = b := by rw [BitVec.toNat_ofInt]; omega
 show IntKind.i64.wrap ((BitVec.ofInt 64 (a : Int) ||| BitVec.ofInt 64 (b : Int)).toNat : Nat) = _
 have e3 : a ||| b < 2 ^ 63 := Nat.or_lt_two_pow ha hb
 rw [BitVec.toNat_or, e1, e2, IntKind.wrap_i64]
 omega
abbrev W32 := BitVec 32
def wi (b : W32) : Int := (b.toNat : Int)
theorem wi_range (b : W32) : 0 ≤ wi b ∧ wi b ≤ 4294967295 := by
 have := b.isLt
 unfold wi
 omega
theorem ofInt_wi (b : W32) : BitVec.ofInt 32 (wi b) = b := by
 unfold wi
 apply BitVec.eq_of_toNat_eq
 have := b.isLt
 rw [BitVec.toNat_ofInt]
 omega
theorem wrap_nat (n : Nat) : IntKind.u32.wrap (n : Int) = ((n % 4294967296 : Nat) : Int) := by rw [IntKind.wrap_u32]; omega
theorem wi_lit (n : Nat) (h : n < 4294967296) : wi (BitVec.ofNat 32 n) = (n : Int) := by
 unfold wi
 rw [BitVec.toNat_ofNat]
 omega
theorem wi_add (a b : W32) : IntKind.u32.wrap (wi a + wi b) = wi (a + b) := by
 unfold wi
 rw [← Int.natCast_add, wrap_nat, BitVec.toNat_add]
theorem wi_and (a b : W32) : bits .and .u32 (wi a) (wi b) = wi (a &&& b) := by
 show IntKind.u32.wrap ((BitVec.ofInt 32 (wi a) &&& BitVec.ofInt 32 (wi b)).toNat : Nat) = _
 rw [ofInt_wi, ofInt_wi, wrap_nat, Nat.mod_eq_of_lt (a &&& b).isLt]
 rfl
theorem wi_or (a b : W32) : bits .or .u32 (wi a) (wi b) = wi (a ||| b) := by
 show IntKind.u32.wrap ((BitVec.ofInt 32 (wi a) ||| BitVec.ofInt 32 (wi b)).toNat : Nat) = _
 rw [ofInt_wi, ofInt_wi, wrap_nat, Nat.mod_eq_of_lt (a ||| b).isLt]
 rfl
theorem wi_xor (a b : W32) : bits .xor .u32 (wi a) (wi b) = wi (a ^^^ b) := by
 show IntKind.u32.wrap ((BitVec.ofInt 32 (wi a) ^^^ BitVec.ofInt 32 (wi b)).toNat : Nat) = _
 rw [ofInt_wi, ofInt_wi, wrap_nat, Nat.mod_eq_of_lt (a ^^^ b).isLt]
 rfl
theorem wi_shr (a : W32) (n : Nat) : wi a / 2 ^ n = wi (a >>> n) := by
 unfold wi
 rw [BitVec.toNat_ushiftRight, Nat.shiftRight_eq_div_pow]
 simp
theorem wi_shl (a : W32) (n : Nat) : IntKind.u32.wrap (wi a * 2 ^ n) = wi (a <<< n) := by
 unfold wi
 have e : ((a.toNat : Int) * 2 ^ n) = ((a.toNat * 2 ^ n : Nat) : Int) := by simp
 rw [e, wrap_nat, BitVec.toNat_shiftLeft, Nat.shiftLeft_eq]
def rotr (a : W32) (n : Nat) : W32 := a >>> n ||| a <<< (32 - n)
def ws (l : List W32) : List Int := l.map wi
theorem ws_length (l : List W32) : (ws l).length = l.length := by simp [ws]
theorem ws_getD (l : List W32) (i : Nat) : (ws l).getD i 0 = wi (l.getD i 0#32) := by
 unfold ws
 simp only [List.getD, List.getElem?_map]
 cases l[i]? <;> simp [wi]
theorem ws_set (l : List W32) (i : Nat) (b : W32) : (ws l).set i (wi b) = ws (l.set i b) := by
 unfold ws
 rw [List.map_set]
theorem ws_zeros (n : Nat) : ws (List.replicate n 0#32) = List.replicate n 0 := by simp [ws, wi]
def beW (m : List UInt8) (k : Nat) : W32 := BitVec.ofNat 32 (16777216 * (m.getD k 0).toNat + 65536 * (m.getD (k + 1) 0).toNat + 256 * (m.getD (k + 2) 0).toNat + (m.getD (k + 3) 0).toNat)
def wTop (m : List UInt8) (start : Nat) : Nat → List W32
 | 0 => List.replicate 64 0#32
 | k + 1 => (wTop m start k).set k (beW m (start + 4 * k))
def sg0 (x : W32) : W32 := rotr x 7 ^^^ rotr x 18 ^^^ x >>> 3
def sg1 (x : W32) : W32 := rotr x 17 ^^^ rotr x 19 ^^^ x >>> 10
def wNext (l : List W32) (i : Nat) : W32 := l.getD (i - 16) 0#32 + sg0 (l.getD (i - 15) 0#32) + l.getD (i - 7) 0#32 + sg1 (l.getD (i - 2) 0#32)
def wSch (m : List UInt8) (start : Nat) : Nat → List W32
 | 0 => wTop m start 16
 | n + 1 => (wSch m start n).set (16 + n) (wNext (wSch m start n) (16 + n))
theorem wTop_length (m : List UInt8) (start : Nat) : ∀ k, (wTop m start k).length = 64
 | 0 => by simp [wTop]
 | k + 1 => by simp [wTop, wTop_length m start k]
theorem wSch_length (m : List UInt8) (start : Nat) : ∀ k, (wSch m start k).length = 64
 | 0 => wTop_length m start 16
 | k + 1 => by simp [wSch, wSch_length m start k]
def rnd (v : List W32) (k w : W32) : List W32 :=
 let e := v.getD 4 0#32
 let a := v.getD 0 0#32
 let t := v.getD 7 0#32 + (rotr e 6 ^^^ rotr e 11 ^^^ rotr e 25) + (e &&& v.getD 5 0#32 ^^^ ~~~e &&& v.getD 6 0#32) + k + w
 let u := (rotr a 2 ^^^ rotr a 13 ^^^ rotr a 22) + (a &&& v.getD 1 0#32 ^^^ a &&& v.getD 2 0#32 ^^^ v.getD 1 0#32 &&& v.getD 2 0#32)
 [t + u, a, v.getD 1 0#32, v.getD 2 0#32, v.getD 3 0#32 + t, e, v.getD 5 0#32, v.getD 6 0#32]
def K256 : List W32 := [0x428a2f98, 0x71374491, 0xb5c0fbcf, 0xe9b5dba5, 0x3956c25b, 0x59f111f1, 0x923f82a4, 0xab1c5ed5,
 0xd807aa98, 0x12835b01, 0x243185be, 0x550c7dc3, 0x72be5d74, 0x80deb1fe, 0x9bdc06a7, 0xc19bf174,
 0xe49b69c1, 0xefbe4786, 0x0fc19dc6, 0x240ca1cc, 0x2de92c6f, 0x4a7484aa, 0x5cb0a9dc, 0x76f988da,
 0x983e5152, 0xa831c66d, 0xb00327c8, 0xbf597fc7, 0xc6e00bf3, 0xd5a79147, 0x06ca6351, 0x14292967,
 0x27b70a85, 0x2e1b2138, 0x4d2c6dfc, 0x53380d13, 0x650a7354, 0x766a0abb, 0x81c2c92e, 0x92722c85,
 0xa2bfe8a1, 0xa81a664b, 0xc24b8b70, 0xc76c51a3, 0xd192e819, 0xd6990624, 0xf40e3585, 0x106aa070,
 0x19a4c116, 0x1e376c08, 0x2748774c, 0x34b0bcb5, 0x391c0cb3, 0x4ed8aa4a, 0x5b9cca4f, 0x682e6ff3,
 0x748f82ee, 0x78a5636f, 0x84c87814, 0x8cc70208, 0x90befffa, 0xa4506ceb, 0xbef9a3f7, 0xc67178f2]
def H256 : List W32 := [0x6a09e667, 0xbb67ae85, 0x3c6ef372, 0xa54ff53a, 0x510e527f, 0x9b05688c, 0x1f83d9ab, 0x5be0cd19]
def vRun (h w : List W32) : Nat → List W32
 | 0 => h
 | i + 1 => rnd (vRun h w i) (K256.getD i 0#32) (w.getD i 0#32)
theorem vRun_length (h w : List W32) (hh : h.length = 8) : ∀ i, (vRun h w i).length = 8
 | 0 => hh
 | i + 1 => rfl
def hAdd (h v : List W32) : Nat → List W32
 | 0 => h
 | k + 1 => (hAdd h v k).set k ((hAdd h v k).getD k 0#32 + v.getD k 0#32)
theorem hAdd_length (h v : List W32) : ∀ k, (hAdd h v k).length = h.length
 | 0 => rfl
 | k + 1 => by simp [hAdd, hAdd_length h v k]
def hRun (m : List UInt8) : Nat → List W32
 | 0 => H256
 | n + 1 => hAdd (hRun m n) (vRun (hRun m n) (wSch m (64 * n) 48) 64) 8
theorem hRun_length (m : List UInt8) : ∀ n, (hRun m n).length = 8
 | 0 => rfl
 | n + 1 => by rw [hRun, hAdd_length, hRun_length m n]
def padN (n : Nat) : Nat := (119 - n % 64) % 64
def beB : Nat → Nat → List UInt8
 | 0, _ => []
 | k + 1, n => UInt8.ofNat (n / 256 ^ k % 256) :: beB k n
def padded (b : List UInt8) : List UInt8 := b ++ [128] ++ List.replicate (padN b.length) 0 ++ beB 8 (8 * b.length)
theorem beB_length : ∀ k n, (beB k n).length = k
 | 0, _ => rfl
 | k + 1, n => by simp [beB, beB_length k n]
def outB (h : List W32) : List UInt8 := (List.range 32).map fun i => UInt8.ofNat ((h.getD (i / 4) 0#32).toNat / 2 ^ (24 - 8 * (i % 4)) % 256)
theorem outB_length (h : List W32) : (outB h).length = 32 := by simp [outB]
def sha256 (b : List UInt8) : List UInt8 := outB (hRun (padded b) ((b.length + 72) / 64))
theorem sha256_length (b : List UInt8) : (sha256 b).length = 32 := outB_length _
theorem and_u64_31 (n : Nat) (h1 : 0 < n) (h2 : n < 32) : bits .and .u64 (IntKind.u64.wrap (-(n : Int))) 31 = ((32 - n : Nat) : Int) := by
 have h : (BitVec.ofInt 64 31).toNat = 2 ^ 5 - 1 := by decide
 have key : (BitVec.ofInt 64 (IntKind.u64.wrap (-(n : Int))) &&& BitVec.ofInt 64 31).toNat = ((IntKind.u64.wrap (-(n : Int))) % ((2 ^ 64 : Nat) : Int)).toNat % 2 ^ 5 := by
  rw [BitVec.toNat_and, BitVec.toNat_ofInt, h, Nat.and_two_pow_sub_one_eq_mod]
 show IntKind.u64.wrap ((BitVec.ofInt 64 (IntKind.u64.wrap (-(n : Int))) &&& BitVec.ofInt 64 31).toNat : Nat) = _
 rw [key, IntKind.wrap_u64, IntKind.wrap_u64]
 omega
theorem sha_wi_rotl (a : W32) (n : Nat) : bits .or .u32 (IntKind.u32.wrap (wi a * 2 ^ (32 - n))) (wi a / 2 ^ n) = wi (rotr a n) := by
 rw [wi_shr, wi_shl, wi_or, BitVec.or_comm]
 rfl
set_option maxHeartbeats 1000000 in
theorem rotl_any (x : W32) (n : Nat) (h1 : 0 < n) (h2 : n < 32) (w : World) : Calls Tryd.prog 81 #[.int .u32 (wi x), .int .i64 (-(n : Int))] w fun e w' => e = .returned (.int .u32 (wi (rotr x n))) ∧ w = w' := by
 have HX := Lib.hid (sha_wi_rotl x n)
 have hr := wi_range x
 have ha := and_u64_31 n h1 h2
 have n0 : 32 - ((32 - n : Nat) : Int) = (n : Int) := by omega
 have n1 : ((32 - n : Nat) : Int) < 32 := by omega
 generalize wi x = z at *
 generalize 32 - n = m at *
 have hw : IntKind.u64.wrap (32 - (m : Int)) = (n : Int) := by rw [n0, IntKind.wrap_u64]; omega
 go_enter Tryd.func81, Tryd.ntmps81
 go_wp2_with fail
 go_ret
 exact ⟨congrArg (fun v => Ending.returned (.int .u32 v)) (by rw [← HX.out, IntKind.wrap_u32]), rfl⟩
set_option maxHeartbeats 1000000 in
theorem turned_any (x : W32) (n : Nat) (h1 : 0 < n) (h2 : n < 32) (w : World) : Calls Tryd.prog 88 #[.int .u32 (wi x), .int .i64 (n : Int)] w fun e w' => e = .returned (.int .u32 (wi (rotr x n))) ∧ w = w' := by
 have HR := Lib.hid (rotl_any x n h1 h2 w)
 generalize wi x = z at *
 generalize wi (rotr x n) = r at *
 have hw : IntKind.i64.wrap (-(n : Int)) = -(n : Int) := IntWalk.i64_in _ (by omega)
 go_enter Tryd.func88, Tryd.ntmps88
 go_wp2_with fail
 refine HR.out.mono ?_
 rintro e w' ⟨rfl, rfl⟩
 go_wp2_with fail
 go_ret
 exact ⟨rfl, rfl⟩
set_option maxHeartbeats 1000000 in
theorem sha_sum_any (x : W32) (a b c : Nat) (a1 : 0 < a) (a2 : a < 32) (b1 : 0 < b) (b2 : b < 32) (c1 : 0 < c) (c2 : c < 32) (w : World) :
  Calls Tryd.prog 85 #[.int .u32 (wi x), .int .i64 (a : Int), .int .i64 (b : Int), .int .i64 (c : Int)] w fun e w' => e = .returned (.int .u32 (wi (rotr x a ^^^ rotr x b ^^^ rotr x c))) ∧ w = w' := by
 have HA := Lib.hid (fun w => turned_any x a a1 a2 w)
 have HB := Lib.hid (fun w => turned_any x b b1 b2 w)
 have HC := Lib.hid (fun w => turned_any x c c1 c2 w)
 have hx : wi (rotr x a ^^^ rotr x b ^^^ rotr x c) = bits .xor .u32 (bits .xor .u32 (wi (rotr x a)) (wi (rotr x b))) (wi (rotr x c)) := by rw [wi_xor, wi_xor]
 rw [hx]
 generalize wi x = z at *
 generalize wi (rotr x a) = ra at *
 generalize wi (rotr x b) = rb at *
 generalize wi (rotr x c) = rc at *
 clear hx
 go_enter Tryd.func85, Tryd.ntmps85
 go_wp2_with fail
 refine (HA.out _).mono ?_
 rintro e w' ⟨rfl, rfl⟩
 go_wp2_with fail
 refine (HB.out _).mono ?_
 rintro e w' ⟨rfl, rfl⟩
 go_wp2_with fail
 refine (HC.out _).mono ?_
 rintro e w' ⟨rfl, rfl⟩
 go_wp2_with fail
 go_ret
 exact ⟨rfl, rfl⟩
theorem sum_ext (x : W32) (a b c : Nat) (a1 : 0 < a) (a2 : a < 32) (b1 : 0 < b) (b2 : b < 32) (c1 : 0 < c) (c2 : c < 32) (w : World) :
  Calls Tryd.prog 85 #[.int .u32 (wi x), .int .i64 (a : Int), .int .i64 (b : Int), .int .i64 (c : Int)] w fun e w' => e = .returned (.int .u32 (wi (rotr x a ^^^ rotr x b ^^^ rotr x c))) ∧ Below w.heap.size w w' :=
 (sha_sum_any x a b c a1 a2 b1 b2 c1 c2 w).mono fun _ _ h => ⟨h.1, by obtain ⟨_, rfl⟩ := h; exact Below.refl _ _⟩
theorem or_u32 (a b : Nat) (ha : a < 4294967296) (hb : b < 4294967296) : bits .or .u32 (a : Int) (b : Int) = ((a ||| b : Nat) : Int) := by
 have e1 : (BitVec.ofInt 32 (a : Int)).toNat = a := by rw [BitVec.toNat_ofInt]; omega
 have e2 : (BitVec.ofInt 32 (b : Int)).toNat = b := by rw [BitVec.toNat_ofInt]; omega
 show IntKind.u32.wrap ((BitVec.ofInt 32 (a : Int) ||| BitVec.ofInt 32 (b : Int)).toNat : Nat) = _
 have e3 : a ||| b < 2 ^ 32 := Nat.or_lt_two_pow ha hb
 rw [BitVec.toNat_or, e1, e2, wrap_nat, Nat.mod_eq_of_lt e3]
theorem or4 (x0 x1 x2 x3 : Nat) (h0 : x0 < 256) (h1 : x1 < 256) (h2 : x2 < 256) (h3 : x3 < 256) :
  bits .or .u32 (bits .or .u32 (bits .or .u32 ((x0 : Int) * 16777216) ((x1 : Int) * 65536)) ((x2 : Int) * 256)) (x3 : Int) = wi (BitVec.ofNat 32 (16777216 * x0 + 65536 * x1 + 256 * x2 + x3)) := by
 have a0 : (x0 : Int) * 16777216 = ((16777216 * x0 : Nat) : Int) := by omega
 have a1 : (x1 : Int) * 65536 = ((65536 * x1 : Nat) : Int) := by omega
 have a2 : (x2 : Int) * 256 = ((256 * x2 : Nat) : Int) := by omega
 have b1 : 16777216 * x0 ||| 65536 * x1 = 16777216 * x0 + 65536 * x1 := or_sum 24 (65536 * x1) x0 (by omega)
 have b2 : 16777216 * x0 + 65536 * x1 ||| 256 * x2 = 16777216 * x0 + 65536 * x1 + 256 * x2 := by
  have h := or_sum 16 (256 * x2) (256 * x0 + x1) (by omega)
  have e : 2 ^ 16 * (256 * x0 + x1) = 16777216 * x0 + 65536 * x1 := by omega
  rwa [e] at h
 have b3 : 16777216 * x0 + 65536 * x1 + 256 * x2 ||| x3 = 16777216 * x0 + 65536 * x1 + 256 * x2 + x3 := by
  have h := or_sum 8 x3 (65536 * x0 + 256 * x1 + x2) (by omega)
  have e : 2 ^ 8 * (65536 * x0 + 256 * x1 + x2) = 16777216 * x0 + 65536 * x1 + 256 * x2 := by omega
  rwa [e] at h
 rw [a0, a1, a2, or_u32 _ _ (by omega) (by omega), b1, or_u32 _ _ (by omega) (by omega), b2, or_u32 _ _ (by omega) (by omega), b3, wi_lit _ (by omega)]
set_option maxHeartbeats 2000000 in
/-- A word is read off four bytes of a block. -/
theorem sha_word_any (c off len cap : Nat) (cs : List UInt8) (t : TypeId) (w : World) (hb : Blk w c (cs.map bval) t) (hl : off + 4 ≤ cs.length) (h4 : 4 ≤ len) :
  Calls Tryd.prog 87 #[.slice (some ⟨c, off, none⟩) len cap] w fun e w' => e = .returned (.int .u32 (wi (beW cs off))) ∧ w' = w.drew := by
 have cc : ∀ j, j ≤ 3 → w.cell? ⟨c, off + j, none⟩ = some (.int .u8 ((cs.getD (off + j) 0).toNat : Int)) := fun j hj => by
  rw [hb.cell, bval_get (by omega)]
 have c0 := cc 0 (by omega)
 have c1 := cc 1 (by omega)
 have c2 := cc 2 (by omega)
 have c3 := cc 3 (by omega)
 simp only [Nat.add_zero] at c0
 have d0 := UInt8.toNat_lt (cs.getD off 0)
 have d1 := UInt8.toNat_lt (cs.getD (off + 1) 0)
 have d2 := UInt8.toNat_lt (cs.getD (off + 2) 0)
 have d3 := UInt8.toNat_lt (cs.getD (off + 3) 0)
 have HBE : Hid (beW cs off = BitVec.ofNat 32 (16777216 * (cs.getD off 0).toNat + 65536 * (cs.getD (off + 1) 0).toNat + 256 * (cs.getD (off + 2) 0).toNat + (cs.getD (off + 3) 0).toNat)) := Lib.hid rfl
 generalize (cs.getD off 0).toNat = x0 at *
 generalize (cs.getD (off + 1) 0).toNat = x1 at *
 generalize (cs.getD (off + 2) 0).toNat = x2 at *
 generalize (cs.getD (off + 3) 0).toNat = x3 at *
 clear cc hb hl
 have i0 : (0 : Int) < (len : Int) ∧ (1 : Int) < (len : Int) ∧ (2 : Int) < (len : Int) ∧ (3 : Int) < (len : Int) := by omega
 obtain ⟨i0, i1, i2, i3⟩ := i0
 go_enter Tryd.func87, Tryd.ntmps87
 go_wp2_with fail
 go_region
 go_wp2_with fail
 go_ret
 exact ⟨by rw [HBE.out, ← or4 x0 x1 x2 x3 d0 d1 d2 d3]; rfl, rfl⟩
def put4 (cs : List UInt8) (off : Nat) (x : W32) : List UInt8 := (((cs.set off (UInt8.ofNat (x.toNat / 16777216))).set (off + 1) (UInt8.ofNat (x.toNat / 65536))).set (off + 2) (UInt8.ofNat (x.toNat / 256))).set (off + 3) (UInt8.ofNat x.toNat)
theorem put4_length (cs : List UInt8) (off : Nat) (x : W32) : (put4 cs off x).length = cs.length := by simp [put4]
theorem bval_ofNat (n : Nat) : bval (UInt8.ofNat n) = .int .u8 ((n : Int) % 256) := by
 unfold bval
 rw [UInt8.toNat_ofNat']
 congr 1
set_option maxHeartbeats 2000000 in
/-- A word is laid over four bytes of a block. -/
theorem put_any (c off len cap : Nat) (cs : List UInt8) (x : W32) (t : TypeId) (w : World) (hb : Blk w c (cs.map bval) t) (hl : off + 4 ≤ cs.length) (h4 : 4 ≤ len) :
  Calls Tryd.prog 86 #[.slice (some ⟨c, off, none⟩) len cap, .int .u32 (wi x)] w fun e w' => e = .returned (.tuple #[]) ∧ Blk w' c ((put4 cs off x).map bval) t ∧ w.grownBy w' (some c) := by
 have cc : ∀ j, j ≤ 3 → w.cell? ⟨c, off + j, none⟩ = some (.int .u8 ((cs.getD (off + j) 0).toNat : Int)) := fun j hj => by
  rw [hb.cell, bval_get (by omega)]
 have ff : ∀ j, w.frozen? ⟨c, off + j, none⟩ = false := fun j => hb.free _
 have c0 := cc 0 (by omega)
 have c1 := cc 1 (by omega)
 have c2 := cc 2 (by omega)
 have c3 := cc 3 (by omega)
 have f0 := ff 0
 have f1 := ff 1
 have f2 := ff 2
 have f3 := ff 3
 simp only [Nat.add_zero] at c0 f0
 generalize (cs.getD off 0).toNat = x0 at *
 generalize (cs.getD (off + 1) 0).toNat = x1 at *
 generalize (cs.getD (off + 2) 0).toNat = x2 at *
 generalize (cs.getD (off + 3) 0).toNat = x3 at *
 have HB := Lib.hid hb
 have HL := Lib.hid hl
 have hr := wi_range x
 have HX : Hid (wi x = (x.toNat : Int)) := Lib.hid rfl
 clear cc ff hb hl
 have i0 : (0 : Int) < (len : Int) ∧ (1 : Int) < (len : Int) ∧ (2 : Int) < (len : Int) ∧ (3 : Int) < (len : Int) := by omega
 obtain ⟨i0, i1, i2, i3⟩ := i0
 have b0 : bval (UInt8.ofNat (x.toNat / 16777216)) = .int .u8 (wi x / 16777216) := by rw [bval_ofNat]; congr 1; unfold wi; have := x.isLt; omega
 have b1 : bval (UInt8.ofNat (x.toNat / 65536)) = .int .u8 (wi x / 65536 % 256) := by rw [bval_ofNat]; congr 1
 have b2 : bval (UInt8.ofNat (x.toNat / 256)) = .int .u8 (wi x / 256 % 256) := by rw [bval_ofNat]; congr 1
 have b3 : bval (UInt8.ofNat x.toNat) = .int .u8 (wi x % 256) := by rw [bval_ofNat]; congr 1
 have hP : (put4 cs off x).map bval = ((((cs.map bval).set off (.int .u8 (wi x / 16777216))).set (off + 1) (.int .u8 (wi x / 65536 % 256))).set (off + 2) (.int .u8 (wi x / 256 % 256))).set (off + 3) (.int .u8 (wi x % 256)) := by
  unfold put4
  rw [List.map_set, List.map_set, List.map_set, List.map_set, b0, b1, b2, b3]
 have HP := Lib.hid hP
 clear hP b0 b1 b2 b3
 generalize wi x = z at *
 go_enter Tryd.func86, Tryd.ntmps86
 go_wp2_with fail
 refine bodyPost_end (results_none rfl _ _ _) rfl ?_
 refine ⟨rfl, ?_, ?_⟩
 ·rw [HP.out]
  exact (((HB.out.set _ _).set _ _).set _ _).set _ _
 ·exact grownBy_set (grownBy_set (grownBy_set (grownBy_set (grownBy_refl w _) _ _) _ _) _ _) _ _
theorem Tryd.arr23 : (Tryd.prog.info? 23).map (·.size) = some 32 := by kernel_rfl
theorem num_info : Tryd.prog.info? 5 = some (Tryd.prog.info? 5).get! := by kernel_rfl
theorem num_cells : Tryd.prog.cellsOf 5 = 1 := by kernel_rfl
theorem num_guard : Tryd.prog.eqGuardType Tryd.prog.depth 23 = false := by kernel_rfl
theorem build_one (w : World) : (Instr.build 23 #[(0, .int .u8 1)]).run Tryd.prog w = .ok (.agg ((smL 1).map bval).toArray) w := by
 simp [Instr.build, Tryd.zeroValue23]
 rfl
theorem num_size {l : List UInt8} (h : l.length = 32) : (Tryd.prog.info? 23).map (·.size) = some (l.map bval).length := by rw [List.length_map, h]; exact Tryd.arr23
theorem Tryd.arr126 : (Tryd.prog.info? 126).map (·.size) = some 64 := by kernel_rfl
theorem Tryd.arr114 : (Tryd.prog.info? 114).map (·.size) = some 8 := by kernel_rfl
theorem Tryd.arr116 : (Tryd.prog.info? 116).map (·.size) = some 64 := by kernel_rfl
theorem boxes3u (w : World) (a b d : List Value) (s t u : TypeId) : Blk (((w.alloc (.cells a.toArray s)).alloc (.cells b.toArray t)).alloc (.cells d.toArray u)) w.heap.size a s ∧ Blk (((w.alloc (.cells a.toArray s)).alloc (.cells b.toArray t)).alloc (.cells d.toArray u)) (w.heap.size + 1) b t ∧
  Blk (((w.alloc (.cells a.toArray s)).alloc (.cells b.toArray t)).alloc (.cells d.toArray u)) (w.heap.size + 1 + 1) d u ∧ Below w.heap.size w (((w.alloc (.cells a.toArray s)).alloc (.cells b.toArray t)).alloc (.cells d.toArray u)) := by
 obtain ⟨h1, h2, h3⟩ := boxes2 w a b s t
 refine ⟨h1.alloc _, h2.alloc _, ?_, Ext.trans h3 (Ext.alloc _ _)⟩
 have := Blk.made ((w.alloc (.cells a.toArray s)).alloc (.cells b.toArray t)) d u
 simpa using this
theorem cut_arr {t : TypeId} {n : Nat} {e : TypeId} (ht : Tryd.prog.underlying t = some (.array n e)) (hc : Tryd.prog.cellsOf e = 1) (h : ∀ w, (sizeOf e).run Tryd.prog w = .ok 1 w) (w : World) (A p : Nat) (hp : p < n) :
  (Instr.sliceAt t (.pointer (some ⟨A, 0, none⟩)) (some (.int .i64 (p : Int))) none none).run Tryd.prog w = .ok (.slice (some ⟨A, p, none⟩) (n - p) (n - p)) w := by
 have e1 : Tryd.prog.arrayLen t = n := by unfold Program.arrayLen; rw [ht]
 have e2 : Tryd.prog.elem t = e := by unfold Program.elem; rw [ht]
 rw [run_sliceAt_array_l w t ⟨A, 0, none⟩ (by rw [e1, e2]; exact ht) .i64 (p : Int) (by omega) (by rw [e1]; omega), e2, h, e1]
 simp [slicedAt, Addr.add, show ¬ n = p by omega]
 exact fun h => h.symm
set_option maxRecDepth 100000 in
set_option maxHeartbeats 8000000 in
theorem schedule_any (cs : List UInt8) (w : World) (hl : cs.length = 64) :
  Calls Tryd.prog 84 #[.agg (cs.map bval).toArray] w fun e w' => e = .returned (.agg (ints .u32 (ws (wSch cs 0 48))).toArray) ∧ Below w.heap.size w w' := by
 have HL := Lib.hid hl
 have HB := Lib.hid (boxes3u w (cs.map bval) (ints .u32 (List.replicate 64 0)) (ints .u32 (List.replicate 64 0)) 116 126 126)
 clear hl
 go_enter Tryd.func84, Tryd.ntmps84
 go_wp2_with fail
 obtain ⟨H1, H2, H3, HE⟩ := HB.out
 change Code.wp _ _ _ _ (((w.alloc (.cells (cs.map bval).toArray 116)).alloc (.cells (ints .u32 (List.replicate 64 0)).toArray 126)).alloc (.cells (ints .u32 (List.replicate 64 0)).toArray 126))
 generalize (((w.alloc (.cells (cs.map bval).toArray 116)).alloc (.cells (ints .u32 (List.replicate 64 0)).toArray 126)).alloc (.cells (ints .u32 (List.replicate 64 0)).toArray 126)) = w3 at *
 obtain ⟨A, hA⟩ : ∃ A, A = w.heap.size := ⟨_, rfl⟩
 rw [← hA] at H1 H2 H3 ⊢
 have hA2 : w.heap.size ≤ A := by omega
 have H1 := Lib.hid H1
 have H2 := Lib.hid H2
 have H3 := Lib.hid H3
 have HE := Lib.hid HE
 clear hA HB
 go_loopw [8] (fun iv wr => ∃ (k : Nat), k ≤ 16 ∧ iv = .int .i64 (k : Int) ∧ Blk wr A (cs.map bval) 116 ∧ Blk wr (A + 1) (ints .u32 (List.replicate 64 0)) 126 ∧ Blk wr (A + 1 + 1) (ints .u32 (ws (wTop cs 0 k))) 126 ∧ Ext w wr) (fun iv _ => 16 - (intOf iv).toNat)
 case atStart => exact ⟨0, by omega, rfl, H1.out, H2.out, by rw [wTop, ws_zeros]; exact H3.out, HE.out⟩
 case round =>
  clear H1 H2 H3 HE
  obtain ⟨k, hk, rfl, hb1, hb2, hb3, hbel⟩ := hrel
  have k0 : (0 : Int) ≤ (k : Int) := Int.natCast_nonneg _
  have hwl := wTop_length cs 0 k
  by_cases hlk : k < 16
  ·have k1 : (k : Int) < 16 := by omega
   have k64 : (k : Int) < 64 := by omega
   have e1 := hb3.cell k
   rw [ints_get (by rw [ws_length]; omega)] at e1
   have f1 := hb3.free k
   generalize (ws (wTop cs 0 k)).getD k 0 = u at e1
   have hs := cut_arr Tryd.underlying116 num_cells Tryd.sizeOf5 wr A (4 * k) (by omega)
   have e4 : ((4 * k : Nat) : Int) = 4 * (k : Int) := by omega
   rw [e4] at hs
   have HB1 := Lib.hid hb1
   have HB2 := Lib.hid hb2
   have HB3 := Lib.hid hb3
   have HE := Lib.hid hbel
   have HW := Lib.hid (sha_word_any A (4 * k) (64 - 4 * k) (64 - 4 * k) cs 116 wr hb1 (by have := HL.out; omega) (by omega))
   clear hb1 hb2 hb3 hbel e4
   go_wp2_with fail
   refine HW.out.mono ?_
   rintro e w4 ⟨rfl, rfl⟩
   have HST : Hid (ws (wTop cs 0 (k + 1)) = (ws (wTop cs 0 k)).set k (wi (beW cs (4 * k)))) := Lib.hid (by rw [ws_set, wTop]; simp)
   generalize wi (beW cs (4 * k)) = z at *
   go_wp2_with fail
   go_roundw
   case rel =>
    refine ⟨k + 1, by omega, by go_num, (HB1.out.far (by simp <;> omega) _).drewN 1, (HB2.out.far (by simp) _).drewN 1, ?_, (Below.setCell HE.out (by simp <;> omega) _).drew⟩
    rw [HST.out]
    exact (HB3.out.seti k _).drewN 1
   case measure => simp [intOf]; omega
  ·have hk16 : k = 16 := by omega
   have hk17 : (k : Int) = 16 := by omega
   rw [hk17]
   clear hk17
   subst hk16
   have hw0 : wTop cs 0 16 = wSch cs 0 0 := rfl
   rw [hw0] at hb3
   have H1 := Lib.hid hb1
   have H2 := Lib.hid hb2
   have H3 := Lib.hid hb3
   have HE := Lib.hid hbel
   clear hb1 hb2 hb3 hbel hwl hw0
   go_wp2_with fail
   obtain ⟨wo, rfl⟩ : ∃ wo : World, wo = wr := ⟨_, rfl⟩
   go_loopw [5] (fun iv wr => ∃ (q : Nat), q ≤ 48 ∧ iv = .int .i64 ((16 + q : Nat) : Int) ∧ Blk wr (A + 1) (ints .u32 (List.replicate 64 0)) 126 ∧ Blk wr (A + 1 + 1) (ints .u32 (ws (wSch cs 0 q))) 126 ∧ Ext w wr) (fun iv _ => 64 - (intOf iv).toNat)
   case atStart => exact ⟨0, by omega, rfl, H2.out, H3.out, HE.out⟩
   case round =>
    clear H1 H2 H3 HE
    obtain ⟨q, hq, rfl, hb2, hb3, hbel⟩ := hrel
    have hwl := wSch_length cs 0 q
    by_cases hlq : q < 48
    ·obtain ⟨i, hi⟩ : ∃ i : Nat, i = 16 + q := ⟨_, rfl⟩
     rw [← hi]
     have i0 : (16 : Int) ≤ (i : Int) := by omega
     have i1 : (i : Int) < 64 := by omega
     obtain ⟨j16, hj16⟩ : ∃ j : Nat, j = i - 16 := ⟨_, rfl⟩
     obtain ⟨j15, hj15⟩ : ∃ j : Nat, j = i - 15 := ⟨_, rfl⟩
     obtain ⟨j7, hj7⟩ : ∃ j : Nat, j = i - 7 := ⟨_, rfl⟩
     obtain ⟨j2, hj2⟩ : ∃ j : Nat, j = i - 2 := ⟨_, rfl⟩
     have g16 : (i : Int) - 16 = (j16 : Int) := by omega
     have g15 : (i : Int) - 15 = (j15 : Int) := by omega
     have g7 : (i : Int) - 7 = (j7 : Int) := by omega
     have g2 : (i : Int) - 2 = (j2 : Int) := by omega
     have l16 : (j16 : Int) < 64 := by omega
     have l15 : (j15 : Int) < 64 := by omega
     have l7 : (j7 : Int) < 64 := by omega
     have l2 : (j2 : Int) < 64 := by omega
     have e16 := hb3.cell j16
     rw [ints_get (by rw [ws_length]; omega), ws_getD] at e16
     have e15 := hb3.cell j15
     rw [ints_get (by rw [ws_length]; omega), ws_getD] at e15
     have e7 := hb3.cell j7
     rw [ints_get (by rw [ws_length]; omega), ws_getD] at e7
     have e2 := hb3.cell j2
     rw [ints_get (by rw [ws_length]; omega), ws_getD] at e2
     have e0 := hb3.cell i
     rw [ints_get (by rw [ws_length]; omega), ws_getD] at e0
     have f0 := hb3.free i
     have HST : Hid (wSch cs 0 (q + 1) = (wSch cs 0 q).set i (((wSch cs 0 q).getD j2 0#32 |> sg1) + (wSch cs 0 q).getD j7 0#32 + sg0 ((wSch cs 0 q).getD j15 0#32) + (wSch cs 0 q).getD j16 0#32)) := Lib.hid (by
      rw [hi, hj16, hj15, hj7, hj2, hi, wSch, wNext]
      congr 1
      ac_rfl)
     generalize (wSch cs 0 q).getD j16 0#32 = y16 at *
     generalize (wSch cs 0 q).getD j15 0#32 = y15 at *
     generalize (wSch cs 0 q).getD j7 0#32 = y7 at *
     generalize (wSch cs 0 q).getD j2 0#32 = y2 at *
     generalize (wSch cs 0 q).getD i 0#32 = y0 at *
     have T1 := Lib.hid (fun w => turned_any y15 7 (by omega) (by omega) w)
     have T2 := Lib.hid (fun w => turned_any y15 18 (by omega) (by omega) w)
     have T3 := Lib.hid (fun w => turned_any y2 17 (by omega) (by omega) w)
     have T4 := Lib.hid (fun w => turned_any y2 19 (by omega) (by omega) w)
     have HB2 := Lib.hid hb2
     have HB3 := Lib.hid hb3
     have HE := Lib.hid hbel
     have HI := Lib.hid hi
     clear hb2 hb3 hbel hwl hi hj16 hj15 hj7 hj2 hq
     go_wp2_with fail
     go_region
     go_wp2_with fail
     refine (T1.out _).mono ?_
     rintro e w' ⟨rfl, rfl⟩
     go_wp2_with fail
     refine (T2.out _).mono ?_
     rintro e w' ⟨rfl, rfl⟩
     go_wp2_with fail
     refine (T3.out _).mono ?_
     rintro e w' ⟨rfl, rfl⟩
     go_wp2_with fail
     refine (T4.out _).mono ?_
     rintro e w' ⟨rfl, rfl⟩
     go_wp2_with fail
     have x1 : bits .xor .u32 (bits .xor .u32 (wi (rotr y15 7)) (wi (rotr y15 18))) (wi y15 / 8) = wi (sg0 y15) := by rw [show (8 : Int) = 2 ^ 3 from rfl, wi_shr, wi_xor, wi_xor]; rfl
     have x2 : bits .xor .u32 (bits .xor .u32 (wi (rotr y2 17)) (wi (rotr y2 19))) (wi y2 / 1024) = wi (sg1 y2) := by rw [show (1024 : Int) = 2 ^ 10 from rfl, wi_shr, wi_xor, wi_xor]; rfl
     have HX1 := Lib.hid x1
     have HX2 := Lib.hid x2
     clear x1 x2 T1 T2 T3 T4
     rw [HX1.out, HX2.out]
     have HWS : Hid ((wi (sg1 y2) + wi y7 + wi (sg0 y15) + wi y16) % 4294967296 = wi (sg1 y2 + y7 + sg0 y15 + y16)) := Lib.hid (by rw [← wi_add, ← wi_add, ← wi_add, IntKind.wrap_u32, IntKind.wrap_u32, IntKind.wrap_u32]; omega)
     go_wp2_with fail
     go_region
     go_wp2_with fail
     go_roundw
     case rel =>
      refine ⟨q + 1, by omega, by have := HI.out; subst this; go_num, (HB2.out.far (by simp) _).drewN 2, ?_, (Below.setCell HE.out (by simp <;> omega) _).drew.drew⟩
      rw [HST.out, ← ws_set, ← HWS.out]
      exact (HB3.out.seti i _).drewN 2
     case measure => simp [intOf]; omega
    ·have hk48 : q = 48 := by omega
     subst hk48
     have H2 := Lib.hid hb2
     have H3 := Lib.hid hb3
     have HE := Lib.hid hbel
     clear hb2 hb3 hbel hwl
     have HIr : Hid ((Tryd.prog.info? 126).map (·.size) = some (ints .u32 (ws (wSch cs 0 48))).length) := Lib.hid (by rw [ints_length, ws_length, wSch_length]; exact Tryd.arr126)
     have HLE : Hid ((ints .u32 (ws (wSch cs 0 48))).length = (ints .u32 (List.replicate 64 0)).length) := Lib.hid (by rw [ints_length, ws_length, wSch_length, ints_length, List.length_replicate])
     go_wp2_with (first | (refine wpList_load_blk rfl _ _ rfl (A + 1 + 1) rfl _ _ _ _ H3.out Tryd.underlying126 HIr.out ?_) | (refine wpList_store_blk rfl _ _ _ rfl (A + 1) (ints .u32 (ws (wSch cs 0 48))) rfl rfl _ _ H2.out HLE.out HIr.out (ints_one _ _) ?_; intro w4 hb4 hg4))
     refine bodyPost_ret (result_blk rfl _ (A + 1) _ _ _ _ rfl hb4 Tryd.underlying126 HIr.out) rfl ?_
     exact ⟨rfl, ext_grown HE.out hg4 (by omega)⟩
theorem glob_ext {w w' : World} {b : Nat} {v : Value} {vs : List Value} (h : w.rangeAt b 0 (v :: vs)) (hb : Ext w w') : w'.rangeAt b 0 (v :: vs) := by
 have h0 := h 0 v rfl
 have hl : b < w.heap.size := by
  apply Classical.byContradiction
  intro hn
  have e : w.heap[b]? = none := by rw [Array.getElem?_eq_none]; omega
  simp [World.cell?, e] at h0
 intro j u hj
 have h1 := h j u hj
 have e := hb.block b hl
 simpa [World.cell?, e] using h1
section
section
variable {P : Program} {ops : Array Oper} {Q : Exit → Act → World → Prop}
theorem quietAt_ext {o : Oper} {a : Act} {w w' : World} {v : Value} (he : Ext w w') (h : o.quietAt P a (Ext w') w' v) : o.quietAt P a (Ext w) w' v := by
 unfold Oper.quietAt at *
 generalize (execOp a.eval o).run P w' = r at *
 cases r with
 | halt x w2 => exact h.elim
 | ok n w2 =>
  cases n <;> simp only [Oper.quietUpon] at h ⊢
  case value u => exact h
  case skip => exact h
  case enter f args => exact ⟨h.1, h.2.mono fun e w3 h3 => ⟨h3.1, he.trans h3.2⟩⟩
theorem quiet_of_det {w : World} {D : Act → Prop} : ∀ (l : List Oper) (a : Act), wpDet P ops (Ext w) D l a → wpQuiet P ops (Ext w) D l a
 | [], _, h => h
 | o :: l, a, h => by
  unfold wpQuiet
  split
  ·rename_i hw
   obtain ⟨v, h1, h2⟩ := h.1 hw
   exact ⟨v, fun w' hw' => quietAt_ext hw' (h1 w' hw'), quiet_of_det l _ h2⟩
  ·rename_i hw
   exact quiet_of_det l _ (h.2 (by simpa using hw))
theorem wp_region_all {id : Nat} {a : Act} {w : World} (hm : P.follows .mixedOrders = true) (hB : Region.lexB .any ops = true)
  (h : wpDet P ops (Ext w) (fun a' => ∀ w', Ext w w' → Q .normal a' w') ops.toList a) : (Code.region id ops true).wp P Q a w :=
 wp_region_quiet (C := Ext w) hm hB (Ext.drew w) (quiet_of_det _ _ h)
end
end
section
theorem blk_w {w : World} {c : Nat} {l : List W32} {t : TypeId} (h : Blk w c (ints .u32 (ws l)) t) {j : Nat} (hj : j < l.length) : w.cell? ⟨c, j, none⟩ = some (.int .u32 (wi (l.getD j 0#32))) := by
 rw [h.cell, ints_get (by rw [ws_length]; exact hj), ws_getD]
section
variable {P : Program} {ops : Array Oper} {C : World → Prop} {D : Act → Prop}
theorem wi_not (x : W32) : bits .xor .u32 4294967295 (wi x) = wi (~~~x) := by
 have e : (4294967295 : Int) = wi (BitVec.allOnes 32) := rfl
 rw [e, wi_xor]
 rw [BitVec.allOnes_xor]
theorem det_winot {o : Oper} {rest : List Oper} {a : Act} (ty : TypeId) (x : Operand) (m : W32) (hw : Region.wanted o (yielded ops a.tmps) = true) (ho : o.op = .unOp .xor ty x) (hx : a.eval x = .int .u32 (wi m))
  (next : wpDet P ops C D rest (a.put o.dst (.int .u32 (wi (~~~m))))) : wpDet P ops C D (o :: rest) a :=
 det_val _ hw (fun w _ => by
  have e := wi_not m
  have h1 : (Op.intBits .xor .u32 4294967295 (wi m)) = pure (.int .u32 (bits .xor .u32 4294967295 (wi m))) := rfl
  have h2 : Op.unary .xor (.int .u32 (wi m)) = Op.intBits .xor .u32 4294967295 (wi m) := rfl
  unfold execOp
  simp only [ho, hx, h2, h1, e]
  simp) next
end
end
section
section
variable {P : Program} {a : Act} {w : World} {Q : Exit → Act → World → Prop}
theorem Exit.jump_mono {l : Nat} {J J' : Act → World → Prop} (h : ∀ a w, J a w → J' a w) : ∀ {e : Exit} {a : Act} {w : World}, Exit.jump l J Q e a w → Exit.jump l J' Q e a w
 | .goto _, _, _, hh => ⟨hh.1, h _ _ hh.2⟩
 | .normal, _, _, hh => hh
 | .exit _, _, _, hh => hh
 | .ret, _, _, hh => hh
 | .panic _, _, _, hh => hh
 | .outgrown, _, _, hh => hh
theorem wp_scope_back0 {c rest : Code} (l : Nat) (J : Act → World → Prop) (μ : Act → World → Nat) (hf : findLabel c l = some (Code.skip.seq rest))
  (first : (∀ a w, J a w → rest.wp P (Exit.jump l J Q) a w) → c.wp P (Exit.jump l J Q) a w)
  (pass : ∀ a w, J a w → rest.wp P (Exit.jump l (fun a' w' => J a' w' ∧ μ a' w' < μ a w) Q) a w) : (Code.scope c).wp P Q a w :=
 wp_scope_jumps l J μ hf (first fun a w h => Code.wp_mono (fun e a w h => Exit.jump_mono (fun _ _ h => h.1) h) (pass a w h)) fun a w h => wp_seq (wp_skip (pass a w h))
end
end
def mixF (h : List W32) (x : List UInt8) : List W32 := hAdd h (vRun h (wSch x 0 48) 64) 8
theorem mixF_length (h : List W32) (x : List UInt8) : (mixF h x).length = h.length := hAdd_length _ _ _
def GlobR (w : World) : Prop := w.rangeAt 0 0 (ints .u32 (ws K256))
theorem GlobR.ext {w w' : World} (h : GlobR w) (hb : Ext w w') : GlobR w' := glob_ext h hb
theorem GlobR.cell {w : World} (h : GlobR w) {j : Nat} (hj : j < 64) : w.cell? ⟨0, j, none⟩ = some (.int .u32 (wi (K256.getD j 0#32))) := by
 have := h j (.int .u32 (wi (K256.getD j 0#32))) (by rw [ints_get (by rw [ws_length]; exact hj), ws_getD])
 simpa using this
theorem hAdd8 : ∀ (h v : List W32), h.length = 8 → v.length = 8 → hAdd h v 8 = [h.getD 0 0#32 + v.getD 0 0#32, h.getD 1 0#32 + v.getD 1 0#32, h.getD 2 0#32 + v.getD 2 0#32, h.getD 3 0#32 + v.getD 3 0#32, h.getD 4 0#32 + v.getD 4 0#32, h.getD 5 0#32 + v.getD 5 0#32, h.getD 6 0#32 + v.getD 6 0#32, h.getD 7 0#32 + v.getD 7 0#32]
 | [_, _, _, _, _, _, _, _], [_, _, _, _, _, _, _, _], _, _ => rfl
def MixJ (h : List W32) (cs : List UInt8) (A : Nat) (wb : World) (a : Act) (w : World) : Prop :=
 ∃ k B : Nat, k ≤ 64 ∧ Blk w A (ints .u32 (ws h)) 114 ∧ Blk w (A + 1 + 1) (ints .u32 (List.replicate 8 0)) 114 ∧ Blk w B (ints .u32 (ws (wSch cs 0 48))) 126 ∧ Ext wb w ∧
 ∃ u : Nat → Value, a = { tmps := #[.agg (ints .u32 (ws h)).toArray, .agg (cs.map bval).toArray, .pointer (some ⟨A, 0, none⟩), .pointer (some ⟨A + 1, 0, none⟩), .pointer (some ⟨A + 1 + 1, 0, none⟩), .pointer (some ⟨B, 0, none⟩),
  .int .u32 (wi ((vRun h (wSch cs 0 48) k).getD 0 0#32)), .int .u32 (wi ((vRun h (wSch cs 0 48) k).getD 1 0#32)), .int .u32 (wi ((vRun h (wSch cs 0 48) k).getD 2 0#32)), .int .u32 (wi ((vRun h (wSch cs 0 48) k).getD 3 0#32)), .int .u32 (wi ((vRun h (wSch cs 0 48) k).getD 4 0#32)), .int .u32 (wi ((vRun h (wSch cs 0 48) k).getD 5 0#32)), .int .u32 (wi ((vRun h (wSch cs 0 48) k).getD 6 0#32)), .int .u32 (wi ((vRun h (wSch cs 0 48) k).getD 7 0#32)), .int .i64 (k : Int), u 15, u 16, u 17, u 18, u 19, u 20, u 21, u 22, u 23, u 24, u 25, u 26, u 27, u 28, u 29, u 30, u 31, u 32, u 33, u 34, u 35, u 36, u 37, u 38, u 39, u 40, u 41, u 42, u 43, u 44, u 45, u 46, u 47, u 48, u 49, u 50, u 51, u 52, u 53, u 54, u 55, u 56, u 57, u 58, u 59, u 60, u 61, u 62, u 63, u 64, u 65, u 66, u 67, u 68, u 69, u 70, u 71, u 72, u 73, u 74, u 75, u 76, u 77, u 78, u 79, u 80, u 81, u 82, u 83, u 84, u 85, u 86, u 87, u 88, u 89, u 90, u 91, u 92, u 93, u 94, u 95, u 96, u 97, u 98, u 99, u 100, u 101, u 102, u 103, u 104, u 105, u 106, u 107, u 108, u 109, u 110, u 111, u 112, u 113, u 114, u 115, u 116, u 117, u 118], defers := [] }
set_option maxRecDepth 100000 in
set_option maxHeartbeats 8000000 in
theorem mixed_any (h : List W32) (cs : List UInt8) (w : World) (hh : h.length = 8) (hl : cs.length = 64) (hG : GlobR w) :
  Calls Tryd.prog 75 #[.agg (ints .u32 (ws h)).toArray, .agg (cs.map bval).toArray] w fun e w' => e = .returned (.agg (ints .u32 (ws (mixF h cs))).toArray) ∧ Below w.heap.size w w' := by
 have HL := Lib.hid hl
 have HH := Lib.hid hh
 have HG := Lib.hid hG
 have HB := Lib.hid (boxes3u w (ints .u32 (ws h)) (cs.map bval) (ints .u32 (List.replicate 8 0)) 114 116 114)
 have HIr : Hid ((Tryd.prog.info? 116).map (·.size) = some (cs.map bval).length) := Lib.hid (by rw [List.length_map, hl]; exact Tryd.arr116)
 clear hl hh hG
 go_enter Tryd.func75, Tryd.ntmps75
 go_upto_region 1 with (fail)
 obtain ⟨H1, H2, H3, HE⟩ := HB.out
 change Code.wp _ _ _ _ (((w.alloc (.cells (ints .u32 (ws h)).toArray 114)).alloc (.cells (cs.map bval).toArray 116)).alloc (.cells (ints .u32 (List.replicate 8 0)).toArray 114))
 generalize (((w.alloc (.cells (ints .u32 (ws h)).toArray 114)).alloc (.cells (cs.map bval).toArray 116)).alloc (.cells (ints .u32 (List.replicate 8 0)).toArray 114)) = w3 at *
 obtain ⟨A, hA⟩ : ∃ A, A = w.heap.size := ⟨_, rfl⟩
 rw [← hA] at H1 H2 H3 ⊢
 have hA2 : w.heap.size ≤ A := by omega
 have H1 := Lib.hid H1
 have H2 := Lib.hid H2
 have H3 := Lib.hid H3
 have HE : Hid (Ext w w3) := Lib.hid HE
 clear hA HB
 refine wp_scope_back0 0 (MixJ h cs A w) (fun a' _ => 64 - (intOf (a'.tmps.getD 14 undef)).toNat) rfl ?_ ?_
 ·intro HP
  have HP := Lib.hid HP
  go_wp2_with (refine wpList_load_blk rfl _ _ rfl (A + 1) rfl _ _ _ _ H2.out Tryd.underlying116 HIr.out ?_)
  refine (schedule_any cs w3 HL.out).mono ?_
  rintro e w4 ⟨rfl, hb⟩
  have H1 := Lib.hid (ext_blk H1.out hb)
  have H3 := Lib.hid (ext_blk H3.out hb)
  have HE := Lib.hid (HE.out.trans hb)
  clear hb H2
  have HZ := Lib.hid (Blk.made w4 (ints .u32 (List.replicate 64 0)) 126)
  have H1L := Lib.hid H1.out.lt
  have H3L := Lib.hid H3.out.lt
  have H1 := Lib.hid (H1.out.alloc (.cells (ints .u32 (List.replicate 64 0)).toArray 126))
  have H3 := Lib.hid (H3.out.alloc (.cells (ints .u32 (List.replicate 64 0)).toArray 126))
  have HS4 := Lib.hid HE.out.size
  have HE := Lib.hid (HE.out.trans (Ext.alloc w4 (.cells (ints .u32 (List.replicate 64 0)).toArray 126)))
  have HLE : Hid ((ints .u32 (ws (wSch cs 0 48))).length = (ints .u32 (List.replicate 64 0)).length) := Lib.hid (by rw [ints_length, ws_length, wSch_length, ints_length, List.length_replicate])
  have HIw : Hid ((Tryd.prog.info? 126).map (·.size) = some (ints .u32 (ws (wSch cs 0 48))).length) := Lib.hid (by rw [ints_length, ws_length, wSch_length]; exact Tryd.arr126)
  go_wp2_with (refine wpList_store_blk rfl _ _ _ rfl w4.heap.size (ints .u32 (ws (wSch cs 0 48))) rfl rfl _ _ HZ.out HLE.out HIw.out (ints_one _ _) ?_; intro w5 hb5 hg5)
  have H1 := Lib.hid (H1.out.grown hg5 (by have := H1L.out; simp; omega))
  have H3 := Lib.hid (H3.out.grown hg5 (by have := H3L.out; simp; omega))
  have HE := Lib.hid (ext_grown HE.out hg5 HS4.out)
  have H4 := Lib.hid hb5
  generalize w4.heap.size = B at *
  clear hb5 hg5 HZ H1L H3L HS4 HLE HIw
  go_wp2_with fail
  refine wp_region_all (by kernel_rfl) (by kernel_rfl) ?_
  refine det_index _ _ _ _ A 8 0 (by rfl) rfl rfl rfl Tryd.underlying114 (by omega) (Tryd.sizeOf77) ?_
  simp only [Act.put, nrm]
  refine det_cell _ _ A 0 (.int .u32 (wi (h.getD 0 0#32))) (by rfl) rfl rfl (fun w hw => blk_w (ext_blk H1.out hw) (by rw [HH.out]; omega)) (Tryd.isAgg77) ?_
  simp only [Act.put, nrm]
  refine det_index _ _ _ _ A 8 1 (by rfl) rfl rfl rfl Tryd.underlying114 (by omega) (Tryd.sizeOf77) ?_
  simp only [Act.put, nrm]
  refine det_cell _ _ A 1 (.int .u32 (wi (h.getD 1 0#32))) (by rfl) rfl rfl (fun w hw => blk_w (ext_blk H1.out hw) (by rw [HH.out]; omega)) (Tryd.isAgg77) ?_
  simp only [Act.put, nrm]
  refine det_index _ _ _ _ A 8 2 (by rfl) rfl rfl rfl Tryd.underlying114 (by omega) (Tryd.sizeOf77) ?_
  simp only [Act.put, nrm]
  refine det_cell _ _ A 2 (.int .u32 (wi (h.getD 2 0#32))) (by rfl) rfl rfl (fun w hw => blk_w (ext_blk H1.out hw) (by rw [HH.out]; omega)) (Tryd.isAgg77) ?_
  simp only [Act.put, nrm]
  refine det_index _ _ _ _ A 8 3 (by rfl) rfl rfl rfl Tryd.underlying114 (by omega) (Tryd.sizeOf77) ?_
  simp only [Act.put, nrm]
  refine det_cell _ _ A 3 (.int .u32 (wi (h.getD 3 0#32))) (by rfl) rfl rfl (fun w hw => blk_w (ext_blk H1.out hw) (by rw [HH.out]; omega)) (Tryd.isAgg77) ?_
  simp only [Act.put, nrm]
  refine det_index _ _ _ _ A 8 4 (by rfl) rfl rfl rfl Tryd.underlying114 (by omega) (Tryd.sizeOf77) ?_
  simp only [Act.put, nrm]
  refine det_cell _ _ A 4 (.int .u32 (wi (h.getD 4 0#32))) (by rfl) rfl rfl (fun w hw => blk_w (ext_blk H1.out hw) (by rw [HH.out]; omega)) (Tryd.isAgg77) ?_
  simp only [Act.put, nrm]
  refine det_index _ _ _ _ A 8 5 (by rfl) rfl rfl rfl Tryd.underlying114 (by omega) (Tryd.sizeOf77) ?_
  simp only [Act.put, nrm]
  refine det_cell _ _ A 5 (.int .u32 (wi (h.getD 5 0#32))) (by rfl) rfl rfl (fun w hw => blk_w (ext_blk H1.out hw) (by rw [HH.out]; omega)) (Tryd.isAgg77) ?_
  simp only [Act.put, nrm]
  refine det_index _ _ _ _ A 8 6 (by rfl) rfl rfl rfl Tryd.underlying114 (by omega) (Tryd.sizeOf77) ?_
  simp only [Act.put, nrm]
  refine det_cell _ _ A 6 (.int .u32 (wi (h.getD 6 0#32))) (by rfl) rfl rfl (fun w hw => blk_w (ext_blk H1.out hw) (by rw [HH.out]; omega)) (Tryd.isAgg77) ?_
  simp only [Act.put, nrm]
  refine det_index _ _ _ _ A 8 7 (by rfl) rfl rfl rfl Tryd.underlying114 (by omega) (Tryd.sizeOf77) ?_
  simp only [Act.put, nrm]
  refine det_cell _ _ A 7 (.int .u32 (wi (h.getD 7 0#32))) (by rfl) rfl rfl (fun w hw => blk_w (ext_blk H1.out hw) (by rw [HH.out]; omega)) (Tryd.isAgg77) ?_
  simp only [Act.put, nrm]
  refine det_assign _ (.int .u32 (wi (h.getD 0 0#32))) (by rfl) rfl rfl ?_
  simp only [Act.put, nrm]
  refine det_assign _ (.int .u32 (wi (h.getD 1 0#32))) (by rfl) rfl rfl ?_
  simp only [Act.put, nrm]
  refine det_assign _ (.int .u32 (wi (h.getD 2 0#32))) (by rfl) rfl rfl ?_
  simp only [Act.put, nrm]
  refine det_assign _ (.int .u32 (wi (h.getD 3 0#32))) (by rfl) rfl rfl ?_
  simp only [Act.put, nrm]
  refine det_assign _ (.int .u32 (wi (h.getD 4 0#32))) (by rfl) rfl rfl ?_
  simp only [Act.put, nrm]
  refine det_assign _ (.int .u32 (wi (h.getD 5 0#32))) (by rfl) rfl rfl ?_
  simp only [Act.put, nrm]
  refine det_assign _ (.int .u32 (wi (h.getD 6 0#32))) (by rfl) rfl rfl ?_
  simp only [Act.put, nrm]
  refine det_assign _ (.int .u32 (wi (h.getD 7 0#32))) (by rfl) rfl rfl ?_
  simp only [Act.put, nrm]
  refine det_nil (fun w6 hw6 => ?_)
  have H1 := Lib.hid (ext_blk H1.out hw6)
  have H3 := Lib.hid (ext_blk H3.out hw6)
  have H4 := Lib.hid (ext_blk H4.out hw6)
  have HE := Lib.hid (HE.out.trans hw6)
  clear hw6
  go_wp2_with fail
  go_step3
  rename_i hK
  refine hK _ _ (HP.out _ _ ?_)
  exact ⟨0, B, by omega, H1.out, H3.out, H4.out, HE.out, fun n => ([_, _, _, _, _, _, _, _, _, _, _, _, _, _, _, _, _, _, _, _, _, _, _, _, _, _, _, _, _, _, _, _, _, _, _, _, _, _, _, _, _, _, _, _, _, _, _, _, _, _, _, _, _, _, _, _, _, _, _, _, _, _, _, _, _, _, _, _, _, _, _, _, _, _, _, _, _, _, _, _, _, _, _, _, _, _, _, _, _, _, _, _, _, _, _, _, _, _, _, _, _, _, _, _] : List Value).getD (n - 15) undef, rfl⟩
 ·rintro a w7 ⟨k, B, hk, h1, h3, h4, hE, u, rfl⟩
  have H1 := Lib.hid h1
  have H3 := Lib.hid h3
  have H4 := Lib.hid h4
  have HE := Lib.hid hE
  clear h1 h3 h4 hE
  have hvl := vRun_length h (wSch cs 0 48) HH.out k
  by_cases hlt : k < 64
  ·have k1 : (k : Int) < 64 := by omega
   have k0 : (0 : Int) ≤ (k : Int) := Int.natCast_nonneg _
   have HWK : Hid (∀ w', Blk w' B (ints .u32 (ws (wSch cs 0 48))) 126 → w'.cell? ⟨B, k, none⟩ = some (.int .u32 (wi ((wSch cs 0 48).getD k 0#32)))) := Lib.hid (fun w' h => blk_w h (by rw [wSch_length]; exact hlt))
   have HKK : Hid (∀ w', Ext w7 w' → w'.cell? ⟨0, k, none⟩ = some (.int .u32 (wi (K256.getD k 0#32)))) := Lib.hid (fun w' h => (HG.out.ext (HE.out.trans h)).cell hlt)
   have HRN : Hid (∀ j, (vRun h (wSch cs 0 48) (k + 1)).getD j 0#32 = (rnd (vRun h (wSch cs 0 48) k) (K256.getD k 0#32) ((wSch cs 0 48).getD k 0#32)).getD j 0#32) := Lib.hid (fun _ => rfl)
   unfold rnd at HRN
   generalize K256.getD k 0#32 = kk at *
   generalize (wSch cs 0 48).getD k 0#32 = wk at *
   generalize (vRun h (wSch cs 0 48) k).getD 0 0#32 = v0 at *
   generalize (vRun h (wSch cs 0 48) k).getD 1 0#32 = v1 at *
   generalize (vRun h (wSch cs 0 48) k).getD 2 0#32 = v2 at *
   generalize (vRun h (wSch cs 0 48) k).getD 3 0#32 = v3 at *
   generalize (vRun h (wSch cs 0 48) k).getD 4 0#32 = v4 at *
   generalize (vRun h (wSch cs 0 48) k).getD 5 0#32 = v5 at *
   generalize (vRun h (wSch cs 0 48) k).getD 6 0#32 = v6 at *
   generalize (vRun h (wSch cs 0 48) k).getD 7 0#32 = v7 at *
   go_wp2_with fail
   refine wp_region_all (by kernel_rfl) (by kernel_rfl) ?_
   refine det_move _ (.int .u32 (wi v7)) (by rfl) rfl rfl ?_
   simp only [Act.put, nrm]
   refine det_move _ (.int .u32 (wi v4)) (by rfl) rfl rfl ?_
   simp only [Act.put, nrm]
   refine det_call _ _ _ [.int .u32 (wi v4), .int .i64 6, .int .i64 11, .int .i64 25] (.int .u32 (wi (rotr v4 6 ^^^ rotr v4 11 ^^^ rotr v4 25))) (by rfl) rfl Tryd.call85 rfl (fun w hw => sum_ext v4 6 11 25 (by omega) (by omega) (by omega) (by omega) (by omega) (by omega) w) ?_
   simp only [Act.put, nrm]
   refine det_add _ _ _ _ _ _ _ (wi (v7 + (rotr v4 6 ^^^ rotr v4 11 ^^^ rotr v4 25))) (by rfl) rfl rfl rfl (wi_add _ _) ?_
   simp only [Act.put, nrm]
   refine det_move _ (.int .u32 (wi v4)) (by rfl) rfl rfl ?_
   simp only [Act.put, nrm]
   refine det_move _ (.int .u32 (wi v5)) (by rfl) rfl rfl ?_
   simp only [Act.put, nrm]
   refine det_and _ _ _ _ _ _ _ (wi (v4 &&& v5)) (by rfl) rfl rfl rfl (wi_and _ _) ?_
   simp only [Act.put, nrm]
   refine det_move _ (.int .u32 (wi v4)) (by rfl) rfl rfl ?_
   simp only [Act.put, nrm]
   refine det_winot _ _ v4 (by rfl) rfl rfl ?_
   simp only [Act.put, nrm]
   refine det_move _ (.int .u32 (wi v6)) (by rfl) rfl rfl ?_
   simp only [Act.put, nrm]
   refine det_and _ _ _ _ _ _ _ (wi ((~~~v4) &&& v6)) (by rfl) rfl rfl rfl (wi_and _ _) ?_
   simp only [Act.put, nrm]
   refine det_xor _ _ _ _ _ _ _ (wi ((v4 &&& v5) ^^^ ((~~~v4) &&& v6))) (by rfl) rfl rfl rfl (wi_xor _ _) ?_
   simp only [Act.put, nrm]
   refine det_add _ _ _ _ _ _ _ (wi ((v7 + (rotr v4 6 ^^^ rotr v4 11 ^^^ rotr v4 25)) + ((v4 &&& v5) ^^^ ((~~~v4) &&& v6)))) (by rfl) rfl rfl rfl (wi_add _ _) ?_
   simp only [Act.put, nrm]
   refine det_move _ (.int .i64 ((k : Nat) : Int)) (by rfl) rfl rfl ?_
   simp only [Act.put, nrm]
   refine det_index _ _ _ _ 0 64 k (by rfl) rfl rfl rfl Tryd.underlying126 (by omega) (Tryd.sizeOf77) ?_
   simp only [Act.put, nrm]
   refine det_cell _ _ 0 k (.int .u32 (wi kk)) (by rfl) rfl rfl (fun w hw => HKK.out _ hw) (Tryd.isAgg77) ?_
   simp only [Act.put, nrm]
   refine det_add _ _ _ _ _ _ _ (wi (((v7 + (rotr v4 6 ^^^ rotr v4 11 ^^^ rotr v4 25)) + ((v4 &&& v5) ^^^ ((~~~v4) &&& v6))) + kk)) (by rfl) rfl rfl rfl (wi_add _ _) ?_
   simp only [Act.put, nrm]
   refine det_move _ (.int .i64 ((k : Nat) : Int)) (by rfl) rfl rfl ?_
   simp only [Act.put, nrm]
   refine det_index _ _ _ _ B 64 k (by rfl) rfl rfl rfl Tryd.underlying126 (by omega) (Tryd.sizeOf77) ?_
   simp only [Act.put, nrm]
   refine det_cell _ _ B k (.int .u32 (wi wk)) (by rfl) rfl rfl (fun w hw => HWK.out _ (ext_blk H4.out hw)) (Tryd.isAgg77) ?_
   simp only [Act.put, nrm]
   refine det_add _ _ _ _ _ _ _ (wi ((((v7 + (rotr v4 6 ^^^ rotr v4 11 ^^^ rotr v4 25)) + ((v4 &&& v5) ^^^ ((~~~v4) &&& v6))) + kk) + wk)) (by rfl) rfl rfl rfl (wi_add _ _) ?_
   simp only [Act.put, nrm]
   refine det_assign _ (.int .u32 (wi ((((v7 + (rotr v4 6 ^^^ rotr v4 11 ^^^ rotr v4 25)) + ((v4 &&& v5) ^^^ ((~~~v4) &&& v6))) + kk) + wk))) (by rfl) rfl rfl ?_
   simp only [Act.put, nrm]
   refine det_nil (fun w1 hw1 => ?_)
   have H1 := Lib.hid (ext_blk H1.out hw1)
   have H3 := Lib.hid (ext_blk H3.out hw1)
   have H4 := Lib.hid (ext_blk H4.out hw1)
   have HE := Lib.hid (HE.out.trans hw1)
   clear hw1
   generalize ht : (((v7 + (rotr v4 6 ^^^ rotr v4 11 ^^^ rotr v4 25)) + ((v4 &&& v5) ^^^ ((~~~v4) &&& v6))) + kk) + wk = t at *
   have HT := Lib.hid ht
   clear ht
   go_wp2_with fail
   have q1 : bits .and .u32 (wi v0) (wi v1) = wi (v0 &&& v1) := wi_and _ _
   have q2 : bits .and .u32 (wi v0) (wi v2) = wi (v0 &&& v2) := wi_and _ _
   have q3 : bits .and .u32 (wi v1) (wi v2) = wi (v1 &&& v2) := wi_and _ _
   have q4 : bits .xor .u32 (wi (v0 &&& v1)) (wi (v0 &&& v2)) = wi (v0 &&& v1 ^^^ v0 &&& v2) := wi_xor _ _
   have q5 : bits .xor .u32 (wi (v0 &&& v1 ^^^ v0 &&& v2)) (wi (v1 &&& v2)) = wi (v0 &&& v1 ^^^ v0 &&& v2 ^^^ v1 &&& v2) := wi_xor _ _
   obtain ⟨u16, hu⟩ : ∃ x : W32, x = (rotr v0 2 ^^^ rotr v0 13 ^^^ rotr v0 22) + (v0 &&& v1 ^^^ v0 &&& v2 ^^^ v1 &&& v2) := ⟨_, rfl⟩
   have q6 : (wi (rotr v0 2 ^^^ rotr v0 13 ^^^ rotr v0 22) + wi (v0 &&& v1 ^^^ v0 &&& v2 ^^^ v1 &&& v2)) % 4294967296 = wi u16 := by rw [hu, ← wi_add, IntKind.wrap_u32]
   have q7 : (wi t + wi u16) % 4294967296 = wi (t + u16) := by rw [← wi_add, IntKind.wrap_u32]
   have q8 : (wi v3 + wi t) % 4294967296 = wi (v3 + t) := by rw [← wi_add, IntKind.wrap_u32]
   have HU := Lib.hid hu
   clear hu
   refine (sha_sum_any v0 2 13 22 (by omega) (by omega) (by omega) (by omega) (by omega) (by omega) w1).mono ?_
   rintro e w2 ⟨rfl, rfl⟩
   go_wp2_with fail
   clear q1 q2 q3 q4 q5 q6
   go_step3
   have r0 : (vRun h (wSch cs 0 48) (k + 1)).getD 0 0#32 = t + u16 := by rw [HRN.out, ← HT.out, HU.out]; rfl
   have r4 : (vRun h (wSch cs 0 48) (k + 1)).getD 4 0#32 = v3 + t := by rw [HRN.out, ← HT.out]; rfl
   have r1 : (vRun h (wSch cs 0 48) (k + 1)).getD 1 0#32 = v0 := HRN.out 1
   have r2 : (vRun h (wSch cs 0 48) (k + 1)).getD 2 0#32 = v1 := HRN.out 2
   have r3 : (vRun h (wSch cs 0 48) (k + 1)).getD 3 0#32 = v2 := HRN.out 3
   have r5 : (vRun h (wSch cs 0 48) (k + 1)).getD 5 0#32 = v4 := HRN.out 5
   have r6 : (vRun h (wSch cs 0 48) (k + 1)).getD 6 0#32 = v5 := HRN.out 6
   have r7 : (vRun h (wSch cs 0 48) (k + 1)).getD 7 0#32 = v6 := HRN.out 7
   have hk1 : ((k + 1 : Nat) : Int) = (k : Int) + 1 := by omega
   rw [q7, q8, ← r0, ← r4, ← r1, ← r2, ← r3, ← r5, ← r6, ← r7, ← hk1]
   change (0 = 0 ∧ (MixJ h cs A w _ _ ∧ _ < _))
   refine ⟨rfl, ⟨k + 1, B, by omega, H1.out, H3.out, H4.out, HE.out, fun n => ([_, _, _, _, _, _, _, _, _, _, _, _, _, _, _, _, _, _, _, _, _, _, _, _, _, _, _, _, _, _, _, _, _, _, _, _, _, _, _, _, _, _, _, _, _, _, _, _, _, _, _, _, _, _, _, _, _, _, _, _, _, _, _, _, _, _, _, _, _, _, _, _, _, _, _, _, _, _, _, _, _, _, _, _, _, _, _, _, _, _, _, _, _, _, _, _, _, _, _, _, _, _, _, _] : List Value).getD (n - 15) undef, rfl⟩, ?_⟩
   ·show 64 - (intOf (.int .i64 ((k + 1 : Nat) : Int))).toNat < 64 - (intOf (.int .i64 (k : Int))).toNat
    simp [intOf]
    omega
  ·have hk64 : k = 64 := by omega
   subst hk64
   have e := hAdd8 h (vRun h (wSch cs 0 48) 64) HH.out hvl
   have HM : Hid (mixF h cs = _) := Lib.hid e
   have hc : ∀ j, j < 8 → w7.cell? ⟨A, j, none⟩ = some (.int .u32 (wi (h.getD j 0#32))) := fun j hj => blk_w H1.out (by rw [HH.out]; exact hj)
   have c0 := hc 0 (by omega)
   have c1 := hc 1 (by omega)
   have c2 := hc 2 (by omega)
   have c3 := hc 3 (by omega)
   have c4 := hc 4 (by omega)
   have c5 := hc 5 (by omega)
   have c6 := hc 6 (by omega)
   have c7 := hc 7 (by omega)
   generalize (vRun h (wSch cs 0 48) 64).getD 0 0#32 = v0 at *
   generalize h.getD 0 0#32 = y0 at *
   have s0 : (wi y0 + wi v0) % 4294967296 = wi (y0 + v0) := by rw [← wi_add, IntKind.wrap_u32]
   generalize (vRun h (wSch cs 0 48) 64).getD 1 0#32 = v1 at *
   generalize h.getD 1 0#32 = y1 at *
   have s1 : (wi y1 + wi v1) % 4294967296 = wi (y1 + v1) := by rw [← wi_add, IntKind.wrap_u32]
   generalize (vRun h (wSch cs 0 48) 64).getD 2 0#32 = v2 at *
   generalize h.getD 2 0#32 = y2 at *
   have s2 : (wi y2 + wi v2) % 4294967296 = wi (y2 + v2) := by rw [← wi_add, IntKind.wrap_u32]
   generalize (vRun h (wSch cs 0 48) 64).getD 3 0#32 = v3 at *
   generalize h.getD 3 0#32 = y3 at *
   have s3 : (wi y3 + wi v3) % 4294967296 = wi (y3 + v3) := by rw [← wi_add, IntKind.wrap_u32]
   generalize (vRun h (wSch cs 0 48) 64).getD 4 0#32 = v4 at *
   generalize h.getD 4 0#32 = y4 at *
   have s4 : (wi y4 + wi v4) % 4294967296 = wi (y4 + v4) := by rw [← wi_add, IntKind.wrap_u32]
   generalize (vRun h (wSch cs 0 48) 64).getD 5 0#32 = v5 at *
   generalize h.getD 5 0#32 = y5 at *
   have s5 : (wi y5 + wi v5) % 4294967296 = wi (y5 + v5) := by rw [← wi_add, IntKind.wrap_u32]
   generalize (vRun h (wSch cs 0 48) 64).getD 6 0#32 = v6 at *
   generalize h.getD 6 0#32 = y6 at *
   have s6 : (wi y6 + wi v6) % 4294967296 = wi (y6 + v6) := by rw [← wi_add, IntKind.wrap_u32]
   generalize (vRun h (wSch cs 0 48) 64).getD 7 0#32 = v7 at *
   generalize h.getD 7 0#32 = y7 at *
   have s7 : (wi y7 + wi v7) % 4294967296 = wi (y7 + v7) := by rw [← wi_add, IntKind.wrap_u32]
   clear hc e
   have HIm : Hid ((Tryd.prog.info? 114).map (·.size) = some (ints .u32 (ws [y0 + v0, y1 + v1, y2 + v2, y3 + v3, y4 + v4, y5 + v5, y6 + v6, y7 + v7])).length) := Lib.hid Tryd.arr114
   go_wp2_with (refine wpList_store_blk rfl _ _ _ rfl (A + 1 + 1) (ints .u32 (ws [y0 + v0, y1 + v1, y2 + v2, y3 + v3, y4 + v4, y5 + v5, y6 + v6, y7 + v7])) rfl rfl _ _ H3.out (by simp [ints_length, ws_length]) HIm.out (ints_one _ _) ?_; intro w8 hb8 hg8)
   simp only [Exit.jump]
   refine bodyPost_ret (result_blk rfl _ (A + 1 + 1) _ _ _ _ rfl hb8 Tryd.underlying114 HIm.out) rfl ?_
   exact ⟨by rw [HM.out], ext_grown HE.out hg8 (by omega)⟩
theorem gRoots : Tryd.prog.globalNamed "portcullis/sha.roots" = some 0 := by kernel_rfl
theorem tRoots : (Tryd.prog.globals[0]?).map (·.type) = some 126 := by kernel_rfl
theorem dRoots : (Rows.laid_portcullis_sha_roots : DataW Unit) = .agg ((ws K256).map fun z => .lit (.int .u32 z)) := by kernel_rfl
theorem globR_of {W : World} {L : List (String × DataW Unit)} (hp : (L.all fun x => x.2.handleName?.isNone) = true) (h : laidMetH Tryd.prog L W) (hm : ("portcullis/sha.roots", Rows.laid_portcullis_sha_roots) ∈ L) : GlobR W :=
 range_of_laid hp h hm dRoots gRoots tRoots Tryd.underlying126 Tryd.underlying77 (by kernel_rfl) (by rw [ws_length]; rfl)
section
def IsPrime (p : Nat) : Prop := 2 ≤ p ∧ ∀ d, d ∣ p → d = 1 ∨ d = p
theorem IsPrime.coprime {p a : Nat} (h : IsPrime p) (ha : ¬ p ∣ a) : Nat.Coprime p a := by
 rcases h.2 _ (Nat.gcd_dvd_left p a) with h1 | h1
 ·exact h1
 ·exact absurd (h1 ▸ Nat.gcd_dvd_right p a) ha
theorem IsPrime.dvd_mul {p a b : Nat} (h : IsPrime p) (hd : p ∣ a * b) : p ∣ a ∨ p ∣ b := by
 by_cases ha : p ∣ a
 ·exact Or.inl ha
 ·exact Or.inr ((h.coprime ha).dvd_of_dvd_mul_left hd)
theorem exists_prime_dvd : ∀ (n : Nat), 2 ≤ n → ∃ r, IsPrime r ∧ r ∣ n
 | n, hn => by
  by_cases h : ∀ d, d ∣ n → d = 1 ∨ d = n
  ·exact ⟨n, ⟨hn, h⟩, Nat.dvd_refl n⟩
  ·obtain ⟨d, hd⟩ := Classical.not_forall.1 h
   rw [Classical.not_imp] at hd
   obtain ⟨hdn, hd2⟩ := hd
   have h1 : d ≠ 1 := fun e => hd2 (Or.inl e)
   have h2 : d ≠ n := fun e => hd2 (Or.inr e)
   have h3 : d ≤ n := Nat.le_of_dvd (by omega) hdn
   have h0 : d ≠ 0 := fun e => by
    subst e
    have := Nat.eq_zero_of_zero_dvd hdn
    omega
   obtain ⟨r, hr, hrd⟩ := exists_prime_dvd d (by omega)
   exact ⟨r, hr, Nat.dvd_trans hrd hdn⟩
  termination_by n => n
theorem prime_of_roots {n : Nat} (hn : 2 ≤ n) (h : ∀ r, IsPrime r → r ∣ n → n < r * r) : IsPrime n := by
 refine ⟨hn, fun d hd => ?_⟩
 by_cases h1 : d = 1
 ·exact Or.inl h1
 ·by_cases h2 : d = n
  ·exact Or.inr h2
  ·exfalso
   obtain ⟨e, he⟩ := hd
   have hd0 : d ≠ 0 := fun e => by subst e; omega
   have he0 : e ≠ 0 := fun e' => by subst e'; omega
   have he1 : e ≠ 1 := fun e' => by subst e'; omega
   obtain ⟨r, hr, hrd⟩ := exists_prime_dvd d (by omega)
   obtain ⟨s, hs, hse⟩ := exists_prime_dvd e (by omega)
   have a1 := h r hr (he ▸ Nat.dvd_trans hrd (Nat.dvd_mul_right d e))
   have a2 := h s hs (he ▸ Nat.dvd_trans hse (Nat.dvd_mul_left e d))
   have b1 := Nat.le_of_dvd (by omega) hrd
   have b2 := Nat.le_of_dvd (by omega) hse
   have c1 := Nat.mul_le_mul b1 b1
   have c2 := Nat.mul_le_mul b2 b2
   have d1 : d * e < d * d := by omega
   have d2 : d * e < e * e := by omega
   have e1 := Nat.lt_of_mul_lt_mul_left d1
   have e2 : d < e := by
    rw [Nat.mul_comm d e] at d2
    exact Nat.lt_of_mul_lt_mul_left d2
   omega
def ch : Nat → Nat → Nat
 | _, 0 => 1
 | 0, _ + 1 => 0
 | n + 1, k + 1 => ch n k + ch n (k + 1)
theorem ch_mul : ∀ (n k : Nat), (k + 1) * ch (n + 1) (k + 1) = (n + 1) * ch n k
 | 0, 0 => by simp [ch]
 | 0, k + 1 => by simp [ch]
 | n + 1, 0 => by
  have := ch_mul n 0
  simp only [ch] at this ⊢
  omega
 | n + 1, k + 1 => by
  have h1 := ch_mul n k
  have h2 := ch_mul n (k + 1)
  have e : ch (n + 1 + 1) (k + 1 + 1) = ch (n + 1) (k + 1) + ch (n + 1) (k + 1 + 1) := rfl
  have e2 : ch (n + 1) (k + 1) = ch n k + ch n (k + 1) := rfl
  rw [e, Nat.mul_add, h2]
  have e3 : (k + 1 + 1) * ch (n + 1) (k + 1) = (k + 1) * ch (n + 1) (k + 1) + ch (n + 1) (k + 1) := by rw [Nat.add_mul (k + 1) 1, Nat.one_mul]
  rw [e3, h1, e2, Nat.mul_add (n + 1 + 1), Nat.add_mul (n + 1) 1 (ch n k), Nat.add_mul (n + 1) 1 (ch n (k + 1))]
  omega
theorem ch_over : ∀ (n k : Nat), n < k → ch n k = 0
 | _, 0, h => by omega
 | 0, k + 1, _ => rfl
 | n + 1, k + 1, h => by
  show ch n k + ch n (k + 1) = 0
  rw [ch_over n k (by omega), ch_over n (k + 1) (by omega)]
theorem ch_self : ∀ (n : Nat), ch n n = 1
 | 0 => rfl
 | n + 1 => by
  show ch n n + ch n (n + 1) = 1
  rw [ch_self n, ch_over n (n + 1) (by omega)]
def sumTo (f : Nat → Nat) : Nat → Nat
 | 0 => 0
 | m + 1 => sumTo f m + f m
theorem sumTo_shift (f : Nat → Nat) : ∀ m, sumTo f (m + 1) = f 0 + sumTo (fun k => f (k + 1)) m
 | 0 => by simp [sumTo]
 | m + 1 => by
  have := sumTo_shift f m
  simp only [sumTo] at this ⊢
  omega
theorem sumTo_add (f g : Nat → Nat) : ∀ m, sumTo (fun k => f k + g k) m = sumTo f m + sumTo g m
 | 0 => rfl
 | m + 1 => by
  have := sumTo_add f g m
  simp only [sumTo] at this ⊢
  omega
theorem sumTo_mul (c : Nat) (f : Nat → Nat) : ∀ m, sumTo (fun k => c * f k) m = c * sumTo f m
 | 0 => by simp [sumTo]
 | m + 1 => by
  have := sumTo_mul c f m
  simp only [sumTo, this, Nat.mul_add]
theorem sumTo_congr {f g : Nat → Nat} : ∀ m, (∀ k, k < m → f k = g k) → sumTo f m = sumTo g m
 | 0, _ => rfl
 | m + 1, h => by
  simp only [sumTo]
  rw [sumTo_congr m (fun k hk => h k (by omega)), h m (by omega)]
theorem binom (a : Nat) : ∀ n, (a + 1) ^ n = sumTo (fun k => ch n k * a ^ k) (n + 1)
 | 0 => by simp [sumTo, ch]
 | n + 1 => by
  have ih := binom a n
  have e1 : sumTo (fun k => ch (n + 1) k * a ^ k) (n + 1 + 1) = 1 + sumTo (fun k => ch (n + 1) (k + 1) * a ^ (k + 1)) (n + 1) := by
   rw [sumTo_shift]
   simp [ch]
  have e2 : sumTo (fun k => ch (n + 1) (k + 1) * a ^ (k + 1)) (n + 1) = a * sumTo (fun k => ch n k * a ^ k) (n + 1) + sumTo (fun k => ch n (k + 1) * a ^ (k + 1)) (n + 1) := by
   rw [← sumTo_mul, ← sumTo_add]
   refine sumTo_congr _ (fun k _ => ?_)
   show (ch n k + ch n (k + 1)) * a ^ (k + 1) = _
   rw [Nat.add_mul, Nat.pow_succ, Nat.mul_left_comm a, Nat.mul_comm a]
  have e3 : sumTo (fun k => ch n k * a ^ k) (n + 1 + 1) = 1 + sumTo (fun k => ch n (k + 1) * a ^ (k + 1)) (n + 1) := by
   rw [sumTo_shift]
   cases n <;> simp [ch]
  have e4 : sumTo (fun k => ch n k * a ^ k) (n + 1 + 1) = sumTo (fun k => ch n k * a ^ k) (n + 1) := by
   simp [sumTo, ch_over n (n + 1) (by omega)]
  rw [Nat.pow_succ, ih, e1, e2]
  rw [e4] at e3
  rw [Nat.mul_add, Nat.mul_one, Nat.mul_comm a]
  omega
theorem prime_ch {p k : Nat} (h : IsPrime p) (h0 : 0 < k) (hk : k < p) : p ∣ ch p k := by
 obtain ⟨k, rfl⟩ : ∃ j, k = j + 1 := ⟨k - 1, by omega⟩
 obtain ⟨n, rfl⟩ : ∃ n, p = n + 1 := ⟨p - 1, by omega⟩
 have hm := ch_mul n k
 rcases h.dvd_mul (a := k + 1) (b := ch (n + 1) (k + 1)) (hm ▸ Nat.dvd_mul_right _ _) with h1 | h1
 ·have := Nat.le_of_dvd (by omega) h1
  omega
 ·exact h1
theorem sumTo_dvd {p : Nat} {f : Nat → Nat} : ∀ m, (∀ k, k < m → p ∣ f k) → p ∣ sumTo f m
 | 0, _ => Nat.dvd_zero p
 | m + 1, h => Nat.dvd_add (sumTo_dvd m (fun k hk => h k (by omega))) (h m (by omega))
theorem fermat {p : Nat} (h : IsPrime p) : ∀ a, a ^ p % p = a % p
 | 0 => by
  rw [Nat.zero_pow (by have := h.1; omega)]
 | a + 1 => by
  have ih := fermat h a
  obtain ⟨n, rfl⟩ : ∃ n, p = n + 1 := ⟨p - 1, by have := h.1; omega⟩
  have hd : (n + 1) ∣ sumTo (fun k => ch (n + 1) (k + 1) * a ^ (k + 1)) n := sumTo_dvd n (fun k hk => Nat.dvd_trans (prime_ch h (by omega) (by omega)) (Nat.dvd_mul_right _ _))
  have e : (a + 1) ^ (n + 1) = 1 + sumTo (fun k => ch (n + 1) (k + 1) * a ^ (k + 1)) n + a ^ (n + 1) := by
   rw [binom, sumTo_shift]
   simp only [sumTo, ch_self]
   simp [ch]
   omega
  obtain ⟨t, ht⟩ := hd
  rw [e, ht]
  generalize a ^ (n + 1) = X at *
  generalize n + 1 = q at *
  rw [show 1 + q * t + X = 1 + X + q * t from by omega, Nat.add_mul_mod_self_left, Nat.add_mod, ih, ← Nat.add_mod, Nat.add_comm]
theorem fermat1 {p a : Nat} (h : IsPrime p) (ha : ¬ p ∣ a) : a ^ (p - 1) % p = 1 := by
 have hf := fermat h a
 have hp := h.1
 obtain ⟨n, rfl⟩ : ∃ n, p = n + 1 := ⟨p - 1, by omega⟩
 have ha0 : 0 < a := by
  rcases Nat.eq_zero_or_pos a with e | e
  ·subst e
   exact absurd (Nat.dvd_zero _) ha
  ·exact e
 have hpos : 0 < a ^ n := Nat.pow_pos ha0
 rw [Nat.pow_succ] at hf
 have hle : a ≤ a ^ n * a := Nat.le_mul_of_pos_left a hpos
 have hd : (n + 1) ∣ a ^ n * a - a := (Nat.dvd_iff_mod_eq_zero).2 (Nat.sub_mod_eq_zero_of_mod_eq hf)
 have e : a ^ n * a - a = a * (a ^ n - 1) := by rw [Nat.mul_sub, Nat.mul_one, Nat.mul_comm a]
 rw [e] at hd
 rcases h.dvd_mul hd with h1 | h1
 ·exact absurd h1 ha
 ·rw [Nat.add_sub_cancel]
  obtain ⟨t, ht⟩ := h1
  have : a ^ n = 1 + (n + 1) * t := by omega
  rw [this, Nat.add_mul_mod_self_left]
  exact Nat.mod_eq_of_lt (by omega)
end
theorem pow_gcd {r b : Nat} : ∀ (u v : Nat), b ^ u % r = 1 % r → b ^ v % r = 1 % r → b ^ (Nat.gcd u v) % r = 1 % r := by
 intro u v
 induction u, v using Nat.gcd.induction with
 | H0 n =>
  intro _ h
  rwa [Nat.gcd_zero_left]
 | H1 m n hm ih =>
  intro h1 h2
  rw [Nat.gcd_rec]
  refine ih ?_ h1
  have e : b ^ n = (b ^ m) ^ (n / m) * b ^ (n % m) := by rw [← Nat.pow_mul, ← Nat.pow_add, Nat.div_add_mod]
  rw [e, Nat.mul_mod, Nat.pow_mod, h1, ← Nat.pow_mod, Nat.one_pow, ← Nat.mul_mod, Nat.one_mul] at h2
  exact h2
theorem pock {r q m b : Nat} (hr : IsPrime r) (hq : IsPrime q) (h1 : b ^ (m * q) % r = 1 % r) (h2 : b ^ m % r ≠ 1 % r) : q ∣ r - 1 := by
 apply Classical.byContradiction
 intro hn
 have hg := hq.coprime hn
 have hr2 := hr.1
 have hc : (b ^ m) ^ q % r = 1 % r := by rw [← Nat.pow_mul]; exact h1
 have hnd : ¬ r ∣ b ^ m := fun hd => by
  obtain ⟨t, ht⟩ := hd
  rw [ht, Nat.pow_mod, Nat.mul_mod_right, Nat.zero_pow (by have := hq.1; omega), Nat.zero_mod, Nat.mod_eq_of_lt (by omega)] at hc
  omega
 have hf : (b ^ m) ^ (r - 1) % r = 1 % r := by
  rw [fermat1 hr hnd, Nat.mod_eq_of_lt (by omega)]
 have := pow_gcd q (r - 1) hc hf
 rw [hg, Nat.pow_one] at this
 exact h2 this
def pm (n : Nat) : Nat → Nat → Nat → Nat
 | 0, _, _ => 1 % n
 | f + 1, b, e => if e % 2 = 1 then b * pm n f (b * b % n) (e / 2) % n else pm n f (b * b % n) (e / 2)
theorem pm_eq {n : Nat} : ∀ (f b e : Nat), e < 2 ^ f → pm n f b e = b ^ e % n
 | 0, b, e, h => by
  have : e = 0 := by simpa using h
  subst this
  rfl
 | f + 1, b, e, h => by
  have hh : e / 2 < 2 ^ f := by rw [Nat.pow_succ] at h; omega
  have e1 : (b * b % n) ^ (e / 2) % n = b ^ (2 * (e / 2)) % n := by rw [← Nat.pow_mod, ← Nat.pow_two, ← Nat.pow_mul]
  simp only [pm, pm_eq f _ _ hh]
  by_cases ho : e % 2 = 1
  ·rw [if_pos ho, e1, Nat.mul_mod, Nat.mod_mod, ← Nat.mul_mod, Nat.mul_comm b, ← Nat.pow_succ]
   congr 2
   omega
  ·rw [if_neg ho, e1]
   congr 2
   omega
def wit (N q b f : Nat) : Bool := decide ((N - 1) % q = 0) && decide (N - 1 < 2 ^ f) && decide (pm N f b (N - 1) = 1) && decide (Nat.gcd (pm N f b ((N - 1) / q) + (N - 1)) N = 1)
theorem wit_dvd {N q b f r : Nat} (hN : 2 ≤ N) (h : wit N q b f = true) (hq : IsPrime q) (hr : IsPrime r) (hd : r ∣ N) : q ∣ r - 1 := by
 unfold wit at h
 simp only [Bool.and_eq_true, decide_eq_true_eq] at h
 obtain ⟨⟨⟨h1, h2⟩, h3⟩, h4⟩ := h
 have hle : (N - 1) / q ≤ N - 1 := Nat.div_le_self _ _
 rw [pm_eq _ _ _ h2] at h3
 rw [pm_eq _ _ _ (by omega)] at h4
 have hm : (N - 1) / q * q = N - 1 := Nat.div_mul_cancel (Nat.dvd_of_mod_eq_zero h1)
 have hr2 := hr.1
 refine pock (m := (N - 1) / q) (b := b) hr hq ?_ ?_
 ·rw [hm]
  obtain ⟨t, ht⟩ := hd
  have : b ^ (N - 1) % N % r = 1 % r := by rw [h3]
  rwa [Nat.mod_mod_of_dvd _ ⟨t, ht⟩] at this
 ·intro hb
  have hdr : r ∣ b ^ ((N - 1) / q) % N + (N - 1) := by
   apply Nat.dvd_of_mod_eq_zero
   rw [Nat.add_mod, Nat.mod_mod_of_dvd _ hd, hb, ← Nat.add_mod]
   have : 1 + (N - 1) = N := by omega
   rw [this]
   exact Nat.mod_eq_zero_of_dvd hd
  have := Nat.dvd_gcd hdr hd
  rw [h4] at this
  have := Nat.le_of_dvd (by omega) this
  omega
theorem prime_by1 {N q b f : Nat} (hN : 2 ≤ N) (hq : IsPrime q) (h : wit N q b f = true) (hF : N < (q + 1) * (q + 1)) : IsPrime N := by
 refine prime_of_roots hN (fun r hr hd => ?_)
 have h1 := wit_dvd hN h hq hr hd
 have hr2 := hr.1
 have := Nat.le_of_dvd (by omega) h1
 exact Nat.lt_of_lt_of_le hF (Nat.mul_le_mul (by omega) (by omega))
theorem prime_by2 {N q s b c f : Nat} (hN : 2 ≤ N) (hq : IsPrime q) (hs : IsPrime s) (hqs : q ≠ s) (h : wit N q b f = true) (h' : wit N s c f = true) (hF : N < (q * s + 1) * (q * s + 1)) : IsPrime N := by
 refine prime_of_roots hN (fun r hr hd => ?_)
 have h1 := wit_dvd hN h hq hr hd
 have h2 := wit_dvd hN h' hs hr hd
 have hr2 := hr.1
 have hc : Nat.Coprime q s := hq.coprime (fun hd => by
  rcases hs.2 q hd with e | e
  ·have := hq.1; omega
  ·exact hqs e)
 have := Nat.le_of_dvd (by omega) (hc.mul_dvd_of_dvd_of_dvd h1 h2)
 exact Nat.lt_of_lt_of_le hF (Nat.mul_le_mul (by omega) (by omega))
def small (n m : Nat) : Bool := (List.range m).all fun d => decide (n % (d + 2) ≠ 0)
theorem prime_small {n m : Nat} (hn : 2 ≤ n) (h : small n m = true) (hm : n < (m + 2) * (m + 2)) : IsPrime n := by
 refine prime_of_roots hn (fun r hr hd => ?_)
 have hr2 := hr.1
 rcases Nat.lt_or_ge r (m + 2) with h1 | h1
 ·unfold small at h
  rw [List.all_eq_true] at h
  have := h (r - 2) (by rw [List.mem_range]; omega)
  simp only [decide_eq_true_eq] at this
  rw [show r - 2 + 2 = r from by omega] at this
  exact absurd (Nat.mod_eq_zero_of_dvd hd) this
 ·exact Nat.lt_of_lt_of_le hm (Nat.mul_le_mul h1 h1)
theorem prime_127 : IsPrime 127 := prime_small (m := 10) (by decide) (by decide +kernel) (by decide)
theorem prime_4153 : IsPrime 4153 := prime_small (m := 63) (by decide) (by decide +kernel) (by decide)
theorem prime_430751 : IsPrime 430751 := prime_small (m := 655) (by decide) (by decide +kernel) (by decide)
theorem prime_569003 : IsPrime 569003 := prime_small (m := 753) (by decide) (by decide +kernel) (by decide)
theorem prime_8574133 : IsPrime 8574133 := prime_small (m := 2927) (by decide) (by decide +kernel) (by decide)
theorem prime_a : IsPrime 2773320623 := prime_by1 (q := 569003) (b := 5) (f := 32) (by decide) prime_569003 (by decide +kernel) (by decide)
theorem prime_b : IsPrime 72106336199 := prime_by1 (q := 2773320623) (b := 2) (f := 37) (by decide) prime_a (by decide +kernel) (by decide)
theorem prime_c : IsPrime 1919519569386763 := prime_by2 (q := 8574133) (s := 127) (b := 2) (c := 2) (f := 51) (by decide) prime_8574133 prime_127 (by decide) (by decide +kernel) (by decide +kernel) (by decide)
theorem prime_d : IsPrime 31757755568855353 := prime_by2 (q := 430751) (s := 4153) (b := 2) (c := 2) (f := 55) (by decide) prime_430751 prime_4153 (by decide) (by decide +kernel) (by decide +kernel) (by decide)
theorem prime_e : IsPrime 75445702479781427272750846543864801 := prime_by2 (q := 1919519569386763) (s := 72106336199) (b := 2) (c := 2) (f := 116) (by decide) prime_c prime_b (by decide) (by decide +kernel) (by decide +kernel) (by decide)
theorem prime_f : IsPrime 74058212732561358302231226437062788676166966415465897661863160754340907 := prime_by2 (q := 75445702479781427272750846543864801) (s := 31757755568855353) (b := 2) (c := 2) (f := 236) (by decide) prime_e prime_d (by decide) (by decide +kernel) (by decide +kernel) (by decide)
theorem prime_p : IsPrime 57896044618658097711785492504343953926634992332820282019728792003956564819949 := prime_by1 (q := 74058212732561358302231226437062788676166966415465897661863160754340907) (b := 2) (f := 255) (by decide) prime_f (by decide +kernel) (by decide)
def pP : Int := 57896044618658097711785492504343953926634992332820282019728792003956564819949
def pN : Nat := 57896044618658097711785492504343953926634992332820282019728792003956564819949
theorem pP_nat : pP = (pN : Int) := rfl
theorem prime_pN : IsPrime pN := prime_p
theorem p_domain {x y : Int} (h : pP ∣ x * y) : pP ∣ x ∨ pP ∣ y := by
 rw [pP_nat] at *
 have h1 := Int.natAbs_dvd_natAbs.2 h
 rw [Int.natAbs_mul, Int.natAbs_natCast] at h1
 rcases prime_pN.dvd_mul h1 with h2 | h2
 ·exact Or.inl (Int.natAbs_dvd_natAbs.1 (by rw [Int.natAbs_natCast]; exact h2))
 ·exact Or.inr (Int.natAbs_dvd_natAbs.1 (by rw [Int.natAbs_natCast]; exact h2))
def Cong (x y : Int) : Prop := pP ∣ x - y
theorem Cong.refl (x : Int) : Cong x x := by unfold Cong; rw [Int.sub_self]; exact Int.dvd_zero _
theorem Cong.symm {x y : Int} (h : Cong x y) : Cong y x := by
 obtain ⟨q, hq⟩ := h
 exact ⟨-q, by grind⟩
theorem Cong.trans {x y z : Int} (h : Cong x y) (g : Cong y z) : Cong x z := by
 obtain ⟨q, hq⟩ := h
 obtain ⟨r, hr⟩ := g
 exact ⟨q + r, by grind⟩
theorem Cong.add {x y u v : Int} (h : Cong x y) (g : Cong u v) : Cong (x + u) (y + v) := by
 obtain ⟨q, hq⟩ := h
 obtain ⟨r, hr⟩ := g
 exact ⟨q + r, by grind⟩
theorem Cong.sub {x y u v : Int} (h : Cong x y) (g : Cong u v) : Cong (x - u) (y - v) := by
 obtain ⟨q, hq⟩ := h
 obtain ⟨r, hr⟩ := g
 exact ⟨q - r, by grind⟩
theorem Cong.mul {x y u v : Int} (h : Cong x y) (g : Cong u v) : Cong (x * u) (y * v) := by
 obtain ⟨q, hq⟩ := h
 obtain ⟨r, hr⟩ := g
 exact ⟨q * u + y * r, by
  have : x = y + pP * q := by grind
  have : u = v + pP * r := by grind
  subst x
  subst u
  grind⟩
theorem Cong.pow {x y : Int} (h : Cong x y) : ∀ n : Nat, Cong (x ^ n) (y ^ n)
 | 0 => by
  rw [Int.pow_zero, Int.pow_zero]
  exact Cong.refl _
 | n + 1 => by
  rw [Int.pow_succ, Int.pow_succ]
  exact (Cong.pow h n).mul h
theorem cong_iff {x y : Int} : Cong x y ↔ x % pP = y % pP := by
 constructor
 ·intro h
  exact Int.emod_eq_emod_iff_emod_sub_eq_zero.2 (Int.emod_eq_zero_of_dvd h)
 ·intro h
  exact Int.dvd_of_emod_eq_zero (Int.emod_eq_emod_iff_emod_sub_eq_zero.1 h)
theorem cong_mod (x : Int) : Cong (x % pP) x := by
 rw [cong_iff, Int.emod_emod]
theorem p_fermat {x : Int} (h : ¬ pP ∣ x) : Cong (x ^ (pN - 1)) 1 := by
 have hp0 : (0 : Int) < pP := by decide +kernel
 have h0 := Int.emod_nonneg x (show pP ≠ 0 by omega)
 obtain ⟨a, ha⟩ := Int.eq_ofNat_of_zero_le h0
 have hna : ¬ pN ∣ a := fun hd => h (by
  apply Int.dvd_of_emod_eq_zero
  have hlt := Int.emod_lt_of_pos x hp0
  rw [ha] at hlt ⊢
  obtain ⟨t, ht⟩ := hd
  rw [pP_nat] at hlt
  have : a < pN := by omega
  have ht0 : t = 0 := by
   rcases Nat.eq_zero_or_pos t with e | e
   ·exact e
   ·have := Nat.le_mul_of_pos_right pN e
    omega
  subst ht0
  rw [ht]
  simp)
 have hf := fermat1 prime_pN hna
 have h1 : Cong ((a : Int) ^ (pN - 1)) 1 := by
  rw [cong_iff, pP_nat, ← Int.natCast_pow]
  have : (1 : Int) % (pN : Int) = ((1 % pN : Nat) : Int) := by rw [Int.natCast_emod]; rfl
  rw [this, ← Int.natCast_emod, hf]
  rfl
 have h2 := (cong_mod x).pow (pN - 1)
 rw [ha] at h2
 exact h2.symm.trans h1
def pM : Nat := 28948022309329048855892746252171976963317496166410141009864396001978282409974
theorem pM_two : pN - 1 = pM + pM := by decide +kernel
def sm1 : Int := 19681161376707505956807079304988542015446066515923890162744021073123829784752
theorem sm1_sq : Cong (sm1 * sm1) (-1) := by
 have : pP ∣ sm1 * sm1 - -1 := by decide +kernel
 exact this
theorem cong_zero {x : Int} : Cong x 0 ↔ pP ∣ x := by unfold Cong; rw [Int.sub_zero]
theorem p_one : ¬ pP ∣ (1 : Int) := by decide +kernel
theorem p_two : ¬ pP ∣ (2 : Int) := by decide +kernel
theorem half_of_square {x r : Int} (h : ¬ pP ∣ x) (hr : Cong (r * r) x) : Cong (x ^ pM) 1 := by
 have hr0 : ¬ pP ∣ r := fun hd => h (by
  obtain ⟨q, hq⟩ := hd
  obtain ⟨t, ht⟩ := hr
  exact ⟨q * r - t, by grind⟩)
 have h1 := hr.symm.pow pM
 have h2 : (r * r) ^ pM = r ^ (pN - 1) := by rw [pM_two, Int.pow_add, Int.mul_pow]
 rw [h2] at h1
 exact h1.trans (p_fermat hr0)
theorem inv_undo {x : Int} (h : ¬ pP ∣ x) : Cong (x * x ^ (pN - 2)) 1 := by
 have e : x * x ^ (pN - 2) = x ^ (pN - 1) := by
  have : pN - 1 = pN - 2 + 1 := by decide +kernel
  rw [this, Int.pow_succ, Int.mul_comm]
 rw [e]
 exact p_fermat h
instance : NeZero pN := ⟨by decide⟩
abbrev Fp := Fin pN
theorem pP_pos : (0 : Int) < pP := by decide +kernel
theorem pN_cast : ((pN : Nat) : Int) = pP := rfl
def fp (x : Int) : Fp := ⟨(x % pP).toNat, by
 have h0 := Int.emod_nonneg x (show pP ≠ 0 from Int.ne_of_gt pP_pos)
 have h1 := Int.emod_lt_of_pos x pP_pos
 rw [← pN_cast] at h1 h0 ⊢
 omega⟩
theorem fp_val (x : Int) : (fp x).val = (x % pP).toNat := rfl
theorem fp_int (x : Int) : ((fp x).val : Int) = x % pP := by
 have h0 := Int.emod_nonneg x (show pP ≠ 0 from Int.ne_of_gt pP_pos)
 rw [fp_val, Int.toNat_of_nonneg h0]
theorem fin_int {a b : Fp} (h : (a.val : Int) = b.val) : a = b := Fin.ext (Int.ofNat_inj.1 h)
theorem fp_eq {x y : Int} : fp x = fp y ↔ Cong x y := by
 rw [cong_iff, ← fp_int, ← fp_int]
 exact ⟨fun h => by rw [h], fin_int⟩
theorem fp_self (a : Fp) : fp a.val = a := by
 apply fin_int
 rw [fp_int, ← pN_cast, Int.emod_eq_of_lt (by omega) (by have := a.isLt; omega)]
theorem fp_add (x y : Int) : fp (x + y) = fp x + fp y := by
 apply fin_int
 rw [Fin.val_add, fp_int, Int.natCast_emod, Int.natCast_add, fp_int, fp_int, pN_cast, ← Int.add_emod]
theorem fp_mul (x y : Int) : fp (x * y) = fp x * fp y := by
 apply fin_int
 rw [Fin.val_mul, fp_int, Int.natCast_emod, Int.natCast_mul, fp_int, fp_int, pN_cast, ← Int.mul_emod]
theorem fp_zero : fp 0 = 0 := by
 apply fin_int
 rw [fp_int]
 rfl
theorem fp_one : fp 1 = 1 := by
 apply fin_int
 rw [fp_int]
 decide +kernel
theorem fp_neg (x : Int) : fp (-x) = -fp x := by
 have h : fp (-x) + fp x = 0 := by rw [← fp_add, Int.add_left_neg, fp_zero]
 grind
theorem fp_sub (x y : Int) : fp (x - y) = fp x - fp y := by
 rw [Int.sub_eq_add_neg, fp_add, fp_neg]
 grind
theorem fp_zero_iff {x : Int} : fp x = 0 ↔ pP ∣ x := by
 rw [← fp_zero, fp_eq, cong_zero]
theorem f_dom {a b : Fp} (h : a * b = 0) : a = 0 ∨ b = 0 := by
 rw [← fp_self a, ← fp_self b, ← fp_mul, fp_zero_iff] at h
 rcases p_domain h with h | h
 ·exact Or.inl (by rw [← fp_self a]; exact fp_zero_iff.2 h)
 ·exact Or.inr (by rw [← fp_self b]; exact fp_zero_iff.2 h)
theorem f_mul_ne {a b : Fp} (ha : a ≠ 0) (hb : b ≠ 0) : a * b ≠ 0 := fun h => by
 rcases f_dom h with h | h
 ·exact ha h
 ·exact hb h
theorem f_cancel {a b c : Fp} (hc : c ≠ 0) (h : a * c = b * c) : a = b := by
 have : (a - b) * c = 0 := by grind
 rcases f_dom this with h | h
 ·grind
 ·exact absurd h hc
def fi (a : Fp) : Fp := fp ((a.val : Int) ^ (pN - 2))
theorem fi_fp (x : Int) : fi (fp x) = fp (x ^ (pN - 2)) := by
 unfold fi
 rw [fp_eq, fp_int]
 exact (cong_mod x).pow _
theorem f_inv {a : Fp} (h : a ≠ 0) : a * fi a = 1 := by
 unfold fi
 have h' : ¬ pP ∣ (a.val : Int) := fun hd => h (by rw [← fp_self a]; exact fp_zero_iff.2 hd)
 have := fp_eq.2 (inv_undo h')
 rw [fp_mul, fp_self, fp_one] at this
 exact this
theorem fi_zero : fi 0 = 0 := by
 rw [← fp_zero, fi_fp]
 rw [Int.zero_pow (by decide +kernel)]
theorem f_one_ne : (1 : Fp) ≠ 0 := by
 rw [← fp_one]
 exact fun h => p_one (fp_zero_iff.1 h)
theorem f_two_ne : (2 : Fp) ≠ 0 := by
 have e : (2 : Fp) = fp 2 := by
  have h : fp 2 = fp 1 + fp 1 := fp_add 1 1
  rw [h, fp_one]
  decide +kernel
 rw [e]
 exact fun h => p_two (fp_zero_iff.1 h)
def dN : Int := 37095705934669439343138083508754565189542113879843219016388785533085940283555
theorem dN_half : (pm pN 255 37095705934669439343138083508754565189542113879843219016388785533085940283555 pM) = pN - 1 := by decide +kernel
theorem dN_not : ¬ Cong (dN ^ pM) 1 := by
 intro h
 have e := pm_eq (n := pN) 255 37095705934669439343138083508754565189542113879843219016388785533085940283555 pM (by decide +kernel)
 rw [dN_half] at e
 rw [cong_iff, dN, pP_nat] at h
 have e2 : (((37095705934669439343138083508754565189542113879843219016388785533085940283555 ^ pM % pN : Nat)) : Int) = (1 : Int) % (pN : Int) := by
  rw [Int.natCast_emod, Int.natCast_pow]
  exact h
 rw [← e] at e2
 revert e2
 decide +kernel
def dF : Fp := fp dN
theorem dF_ne : dF ≠ 0 := by
 intro h
 have := fp_zero_iff.1 h
 revert this
 decide +kernel
theorem dF_eq : dF * 121666 = -121665 := by
 decide +kernel
theorem dF_nonsq (r : Fp) : r * r ≠ dF := by
 intro h
 rw [← fp_self r, ← fp_mul, dF, fp_eq] at h
 refine dN_not (half_of_square (fun hd => dF_ne (fp_zero_iff.2 hd)) h)
def iF : Fp := fp sm1
theorem iF_sq : iF * iF = -1 := by
 rw [iF, ← fp_mul, ← fp_one, ← fp_neg, fp_eq]
 exact sm1_sq
def On (x y : Fp) : Prop := y * y - x * x = 1 + dF * (x * x * (y * y))
theorem d_ratio {a b : Fp} (h : a * a = dF * (b * b)) : b = 0 := by
 apply Classical.byContradiction
 intro hb
 have hf := f_inv hb
 refine dF_nonsq (a * fi b) ?_
 generalize fi b = c at *
 grind
theorem on_ne {x1 y1 x2 y2 : Fp} (h1 : On x1 y1) (h2 : On x2 y2) {s : Fp} (hs : s * s = 1) : dF * (x1 * x2 * (y1 * y2)) ≠ s := by
 intro hd
 have hi := iF_sq
 unfold On at h1 h2
 have hs0 : s ≠ 0 := fun e => f_one_ne (by rw [← hs, e]; grind)
 have k1 : dF * (x1 * x1 * (y1 * y1)) * (y2 * y2 - x2 * x2) = y1 * y1 - x1 * x1 := by
  have a1 : dF * (x1 * x1 * (y1 * y1)) * (y2 * y2 - x2 * x2) = dF * (x1 * x1 * (y1 * y1)) + (dF * (x1 * x2 * (y1 * y2))) * (dF * (x1 * x2 * (y1 * y2))) := by
   rw [h2]
   grind
  rw [a1, hd, hs]
  grind
 have k2 : (iF * x1 + s * y1) * (iF * x1 + s * y1) = dF * ((x1 * y1 * (y2 + iF * x2)) * (x1 * y1 * (y2 + iF * x2))) := by
  have a2 : dF * ((x1 * y1 * (y2 + iF * x2)) * (x1 * y1 * (y2 + iF * x2))) = dF * (x1 * x1 * (y1 * y1)) * (y2 * y2 + iF * iF * (x2 * x2)) + 2 * iF * (x1 * y1) * (dF * (x1 * x2 * (y1 * y2))) := by grind
  rw [a2, hd, hi]
  have a3 : y2 * y2 + -1 * (x2 * x2) = y2 * y2 - x2 * x2 := by grind
  rw [a3, k1]
  have a4 : (iF * x1 + s * y1) * (iF * x1 + s * y1) = iF * iF * (x1 * x1) + s * s * (y1 * y1) + 2 * iF * (x1 * y1) * s := by grind
  rw [a4, hi, hs]
  grind
 have k3 : (-iF * x1 + s * y1) * (-iF * x1 + s * y1) = dF * ((x1 * y1 * (y2 - iF * x2)) * (x1 * y1 * (y2 - iF * x2))) := by
  have a2 : dF * ((x1 * y1 * (y2 - iF * x2)) * (x1 * y1 * (y2 - iF * x2))) = dF * (x1 * x1 * (y1 * y1)) * (y2 * y2 + iF * iF * (x2 * x2)) - 2 * iF * (x1 * y1) * (dF * (x1 * x2 * (y1 * y2))) := by grind
  rw [a2, hd, hi]
  have a3 : y2 * y2 + -1 * (x2 * x2) = y2 * y2 - x2 * x2 := by grind
  rw [a3, k1]
  have a4 : (-iF * x1 + s * y1) * (-iF * x1 + s * y1) = iF * iF * (x1 * x1) + s * s * (y1 * y1) - 2 * iF * (x1 * y1) * s := by grind
  rw [a4, hi, hs]
  grind
 have z2 := d_ratio k2
 have z3 := d_ratio k3
 have hx : x1 * y1 ≠ 0 := fun e => hs0 (by
  have : dF * (x1 * x2 * (y1 * y2)) = dF * (x2 * y2) * (x1 * y1) := by grind
  rw [← hd, this, e]
  grind)
 have w2 : y2 + iF * x2 = 0 := by
  rcases f_dom z2 with e | e
  ·exact absurd e hx
  ·exact e
 have w3 : y2 - iF * x2 = 0 := by
  rcases f_dom z3 with e | e
  ·exact absurd e hx
  ·exact e
 have w4 : 2 * y2 = 0 := by grind
 have w5 : y2 = 0 := by
  rcases f_dom w4 with e | e
  ·exact absurd e f_two_ne
  ·exact e
 apply hs0
 rw [← hd, w5]
 grind
theorem on_plus {x1 y1 x2 y2 : Fp} (h1 : On x1 y1) (h2 : On x2 y2) : 1 + dF * (x1 * x2 * (y1 * y2)) ≠ 0 := fun h =>
 on_ne h1 h2 (s := -1) (by grind) (by grind)
theorem on_minus {x1 y1 x2 y2 : Fp} (h1 : On x1 y1) (h2 : On x2 y2) : 1 - dF * (x1 * x2 * (y1 * y2)) ≠ 0 := fun h =>
 on_ne h1 h2 (s := 1) (by grind) (by grind)
structure Pt where
 x : Fp
 y : Fp
 on : On x y
theorem Pt.ext' {P Q : Pt} (hx : P.x = Q.x) (hy : P.y = Q.y) : P = Q := by
 cases P; cases Q; cases hx; cases hy; rfl
theorem f_sub {a b : Fp} (h : a - b = 0) : a = b := by
 have e : a = (a - b) + b := by grind
 rw [e, h, Fin.zero_add]
theorem lin2 {L R c1 e1 c2 e2 : Fp} (h : L - R = c1 * e1 + c2 * e2) (h1 : e1 = 0) (h2 : e2 = 0) : L = R := by
 apply f_sub
 rw [h, h1, h2, Fin.mul_zero, Fin.mul_zero, Fin.zero_add]
theorem lin3 {L R c1 e1 c2 e2 c3 e3 : Fp} (h : L - R = c1 * e1 + c2 * e2 + c3 * e3) (h1 : e1 = 0) (h2 : e2 = 0) (h3 : e3 = 0) : L = R := by
 apply f_sub
 rw [h, h1, h2, h3, Fin.mul_zero, Fin.mul_zero, Fin.mul_zero, Fin.zero_add, Fin.zero_add]
theorem lin {L R A B : Fp} (c : Fp) (e : A = B) (h : L - R = c * (A - B)) : L = R := by
 apply f_sub
 have z : B - B = 0 := by grind
 rw [h, e, z, Fin.mul_zero]
theorem on_sum {x1 y1 x2 y2 x3 y3 d : Fp} (h1 : y1 * y1 - x1 * x1 = 1 + d * (x1 * x1 * (y1 * y1))) (h2 : y2 * y2 - x2 * x2 = 1 + d * (x2 * x2 * (y2 * y2)))
  (ha : 1 + d * (x1 * x2 * (y1 * y2)) ≠ 0) (hb : 1 - d * (x1 * x2 * (y1 * y2)) ≠ 0)
  (hx : x3 * (1 + d * (x1 * x2 * (y1 * y2))) = x1 * y2 + x2 * y1) (hy : y3 * (1 - d * (x1 * x2 * (y1 * y2))) = y1 * y2 + x1 * x2) : y3 * y3 - x3 * x3 = 1 + d * (x3 * x3 * (y3 * y3)) := by
 generalize hA : 1 + d * (x1 * x2 * (y1 * y2)) = A at *
 generalize hB : 1 - d * (x1 * x2 * (y1 * y2)) = B at *
 refine f_cancel (f_mul_ne (f_mul_ne ha ha) (f_mul_ne hb hb)) ?_
 have l : (y3 * y3 - x3 * x3) * (A * A * (B * B)) = (y3 * B) * (y3 * B) * (A * A) - (x3 * A) * (x3 * A) * (B * B) := by grind
 have r : (1 + d * (x3 * x3 * (y3 * y3))) * (A * A * (B * B)) = A * A * (B * B) + d * ((x3 * A) * (x3 * A) * ((y3 * B) * (y3 * B))) := by grind
 rw [l, r, hx, hy]
 clear l r hx hy ha hb x3 y3
 subst hA hB
 have e1 : y1 * y1 - x1 * x1 - 1 - d * (x1 * x1 * (y1 * y1)) = 0 := by grind
 have e2 : y2 * y2 - x2 * x2 - 1 - d * (x2 * x2 * (y2 * y2)) = 0 := by grind
 clear h1 h2
 have key : ((y1 * y2 + x1 * x2) * (y1 * y2 + x1 * x2) * ((1 + d * (x1 * x2 * (y1 * y2))) * (1 + d * (x1 * x2 * (y1 * y2)))) - (x1 * y2 + x2 * y1) * (x1 * y2 + x2 * y1) * ((1 - d * (x1 * x2 * (y1 * y2))) * (1 - d * (x1 * x2 * (y1 * y2))))) - ((1 + d * (x1 * x2 * (y1 * y2))) * (1 + d * (x1 * x2 * (y1 * y2))) * ((1 - d * (x1 * x2 * (y1 * y2))) * (1 - d * (x1 * x2 * (y1 * y2)))) + d * ((x1 * y2 + x2 * y1) * (x1 * y2 + x2 * y1) * ((y1 * y2 + x1 * x2) * (y1 * y2 + x1 * x2))))
  = (x1^2*y1^2*x2^4*y2^4*d^3 - x1^2*x2^4*y2^4*d^2 - x1^2*x2^4*y2^2*d + x1^2*x2^2*y2^4*d + y1^2*x2^4*y2^4*d^2 + y1^2*x2^4*y2^2*d - y1^2*x2^2*y2^4*d - x2^4*y2^4*d^2 - 2*x2^4*y2^4*d - 2*x2^4*y2^2 + x2^4 + 2*x2^2*y2^4 - 2*x2^2*y2^2*d - 4*x2^2*y2^2 + y2^4) * (y1 * y1 - x1 * x1 - 1 - d * (x1 * x1 * (y1 * y1))) + (x1^4*x2^2*y2^2*d + 2*x1^2*x2^2*y2^2*d + 2*x1^2*x2^2*y2^2 - x1^2*x2^2 + x1^2*y2^2 + y1^4*x2^2*y2^2*d - 2*y1^2*x2^2*y2^2*d - 2*y1^2*x2^2*y2^2 + y1^2*x2^2 - y1^2*y2^2 + x2^2*y2^2*d + 2*x2^2*y2^2 - x2^2 + y2^2 + 1) * (y2 * y2 - x2 * x2 - 1 - d * (x2 * x2 * (y2 * y2))) := by grind
 exact lin2 key e1 e2
def padd (P Q : Pt) : Pt where
 x := (P.x * Q.y + Q.x * P.y) * fi (1 + dF * (P.x * Q.x * (P.y * Q.y)))
 y := (P.y * Q.y + P.x * Q.x) * fi (1 - dF * (P.x * Q.x * (P.y * Q.y)))
 on := by
  have ha := on_plus P.on Q.on
  have hb := on_minus P.on Q.on
  refine on_sum P.on Q.on ha hb ?_ ?_
  ·have := f_inv ha
   generalize fi (1 + dF * (P.x * Q.x * (P.y * Q.y))) = c at *
   generalize 1 + dF * (P.x * Q.x * (P.y * Q.y)) = a at *
   grind
  ·have := f_inv hb
   generalize fi (1 - dF * (P.x * Q.x * (P.y * Q.y))) = c at *
   generalize 1 - dF * (P.x * Q.x * (P.y * Q.y)) = a at *
   grind
theorem padd_x (P Q : Pt) : (padd P Q).x * (1 + dF * (P.x * Q.x * (P.y * Q.y))) = P.x * Q.y + Q.x * P.y := by
 have := f_inv (on_plus P.on Q.on)
 show (P.x * Q.y + Q.x * P.y) * fi _ * _ = _
 generalize fi (1 + dF * (P.x * Q.x * (P.y * Q.y))) = c at *
 generalize 1 + dF * (P.x * Q.x * (P.y * Q.y)) = a at *
 grind
theorem padd_y (P Q : Pt) : (padd P Q).y * (1 - dF * (P.x * Q.x * (P.y * Q.y))) = P.y * Q.y + P.x * Q.x := by
 have := f_inv (on_minus P.on Q.on)
 show (P.y * Q.y + P.x * Q.x) * fi _ * _ = _
 generalize fi (1 - dF * (P.x * Q.x * (P.y * Q.y))) = c at *
 generalize 1 - dF * (P.x * Q.x * (P.y * Q.y)) = a at *
 grind
theorem padd_of {P Q R : Pt} (hx : R.x * (1 + dF * (P.x * Q.x * (P.y * Q.y))) = P.x * Q.y + Q.x * P.y) (hy : R.y * (1 - dF * (P.x * Q.x * (P.y * Q.y))) = P.y * Q.y + P.x * Q.x) : R = padd P Q :=
 Pt.ext' (f_cancel (on_plus P.on Q.on) (hx.trans (padd_x P Q).symm)) (f_cancel (on_minus P.on Q.on) (hy.trans (padd_y P Q).symm))
theorem padd_comm (P Q : Pt) : padd P Q = padd Q P := by
 refine padd_of ?_ ?_
 ·have := padd_x P Q
  have e : 1 + dF * (Q.x * P.x * (Q.y * P.y)) = 1 + dF * (P.x * Q.x * (P.y * Q.y)) := by grind
  rw [e, this]
  grind
 ·have := padd_y P Q
  have e : 1 - dF * (Q.x * P.x * (Q.y * P.y)) = 1 - dF * (P.x * Q.x * (P.y * Q.y)) := by grind
  rw [e, this]
  grind
def pzero : Pt := ⟨0, 1, by unfold On; grind⟩
def pneg (P : Pt) : Pt := ⟨-P.x, P.y, by have := P.on; unfold On at *; grind⟩
theorem padd_zero (P : Pt) : padd P pzero = P := by
 refine (padd_of ?_ ?_).symm
 ·show P.x * (1 + dF * (P.x * 0 * (P.y * 1))) = P.x * 1 + 0 * P.y
  grind
 ·show P.y * (1 - dF * (P.x * 0 * (P.y * 1))) = P.y * 1 + P.x * 0
  grind
theorem zero_padd (P : Pt) : padd pzero P = P := by rw [padd_comm, padd_zero]
theorem padd_neg (P : Pt) : padd P (pneg P) = pzero := by
 have h := P.on
 unfold On at h
 refine (padd_of ?_ ?_).symm
 ·show 0 * (1 + dF * (P.x * -P.x * (P.y * P.y))) = P.x * P.y + -P.x * P.y
  grind
 ·show 1 * (1 - dF * (P.x * -P.x * (P.y * P.y))) = P.y * P.y + P.x * -P.x
  grind
set_option maxHeartbeats 2000000 in
theorem assoc_x {x1 y1 x2 y2 x3 y3 d : Fp} (e1 : y1 * y1 - x1 * x1 - 1 - d * (x1 * x1 * (y1 * y1)) = 0) (e2 : y2 * y2 - x2 * x2 - 1 - d * (x2 * x2 * (y2 * y2)) = 0) (e3 : y3 * y3 - x3 * x3 - 1 - d * (x3 * x3 * (y3 * y3)) = 0) :
  ((x1 * y2 + x2 * y1) * (1 - d * (x1 * x2 * (y1 * y2))) * y3 + x3 * ((y1 * y2 + x1 * x2) * (1 + d * (x1 * x2 * (y1 * y2))))) * ((1 + d * (x2 * x3 * (y2 * y3))) * (1 - d * (x2 * x3 * (y2 * y3))) + d * (x1 * y1 * ((x2 * y3 + x3 * y2) * (y2 * y3 + x2 * x3))))
  = (x1 * ((y2 * y3 + x2 * x3) * (1 + d * (x2 * x3 * (y2 * y3)))) + (x2 * y3 + x3 * y2) * (1 - d * (x2 * x3 * (y2 * y3))) * y1) * ((1 + d * (x1 * x2 * (y1 * y2))) * (1 - d * (x1 * x2 * (y1 * y2))) + d * ((x1 * y2 + x2 * y1) * (y1 * y2 + x1 * x2) * (x3 * y3))) := by
 refine lin3 (c1 := (-(x1 * x2 * x2 * x2 * x2 * y2 * y2 * y2 * x3 * x3 * y3 * d * d) - x1 * x2 * x2 * x2 * x2 * y2 * x3 * x3 * y3 * d - x1 * x2 * x2 * x2 * y2 * y2 * y2 * y2 * x3 * y3 * y3 * d * d - x1 * x2 * x2 * x2 * y2 * y2 * x3 * x3 * x3 * d - x1 * x2 * x2 * x2 * y2 * y2 * x3 * d + x1 * x2 * x2 * y2 * y2 * y2 * y3 * y3 * y3 * d - x1 * x2 * x2 * y2 * y2 * y2 * y3 * d + x1 * x2 * y2 * y2 * y2 * y2 * x3 * y3 * y3 * d + y1 * x2 * x2 * x2 * x2 * y2 * y2 * y2 * x3 * y3 * y3 * d * d + y1 * x2 * x2 * x2 * x2 * y2 * x3 * y3 * y3 * d + y1 * x2 * x2 * x2 * y2 * y2 * y2 * y2 * x3 * x3 * y3 * d * d + y1 * x2 * x2 * x2 * y2 * y2 * y3 * y3 * y3 * d - y1 * x2 * x2 * x2 * y2 * y2 * y3 * d - y1 * x2 * x2 * y2 * y2 * y2 * x3 * x3 * x3 * d - y1 * x2 * x2 * y2 * y2 * y2 * x3 * d - y1 * x2 * y2 * y2 * y2 * y2 * x3 * x3 * y3 * d)) (c2 := (x1 * x1 * x1 * x2 * x2 * y2 * x3 * x3 * y3 * d + x1 * x1 * x1 * x2 * y2 * y2 * x3 * y3 * y3 * d + x1 * x1 * x1 * x2 * x3 * x3 * x3 * y3 * y3 * d + x1 * x1 * x1 * x2 * x3 * x3 * x3 - x1 * x1 * x1 * x2 * x3 * y3 * y3 + x1 * x1 * x1 * x2 * x3 + x1 * x1 * x1 * y2 * x3 * x3 * y3 * y3 * y3 * d + x1 * x1 * x1 * y2 * x3 * x3 * y3 - x1 * x1 * x1 * y2 * y3 * y3 * y3 + x1 * x1 * x1 * y2 * y3 + x1 * x1 * y1 * x2 * x2 * y2 * x3 * x3 * x3 * y3 * y3 * d * d - x1 * x1 * y1 * x2 * x2 * y2 * x3 * y3 * y3 * d - x1 * x1 * y1 * x2 * y2 * y2 * x3 * x3 * y3 * y3 * y3 * d * d - x1 * x1 * y1 * x2 * y2 * y2 * x3 * x3 * y3 * d + x1 * x1 * y1 * x2 * x3 * x3 * y3 * y3 * y3 * d + x1 * x1 * y1 * x2 * x3 * x3 * y3 - x1 * x1 * y1 * x2 * y3 * y3 * y3 + x1 * x1 * y1 * x2 * y3 + x1 * x1 * y1 * y2 * x3 * x3 * x3 * y3 * y3 * d + x1 * x1 * y1 * y2 * x3 * x3 * x3 - x1 * x1 * y1 * y2 * x3 * y3 * y3 + x1 * x1 * y1 * y2 * x3 - x1 * y1 * y1 * x2 * x2 * y2 * x3 * x3 * y3 * y3 * y3 * d * d - x1 * y1 * y1 * x2 * x2 * y2 * x3 * x3 * y3 * d + x1 * y1 * y1 * x2 * y2 * y2 * x3 * x3 * x3 * y3 * y3 * d * d - x1 * y1 * y1 * x2 * y2 * y2 * x3 * y3 * y3 * d - x1 * y1 * y1 * x2 * x3 * x3 * x3 * y3 * y3 * d - x1 * y1 * y1 * x2 * x3 * x3 * x3 + x1 * y1 * y1 * x2 * x3 * y3 * y3 - x1 * y1 * y1 * x2 * x3 - x1 * y1 * y1 * y2 * x3 * x3 * y3 * y3 * y3 * d - x1 * y1 * y1 * y2 * x3 * x3 * y3 + x1 * y1 * y1 * y2 * y3 * y3 * y3 - x1 * y1 * y1 * y2 * y3 + x1 * x2 * x2 * y2 * x3 * x3 * y3 * d + x1 * x2 * y2 * y2 * x3 * y3 * y3 * d + x1 * x2 * x3 * x3 * x3 * y3 * y3 * d + x1 * x2 * x3 * x3 * x3 - x1 * x2 * x3 * y3 * y3 + x1 * x2 * x3 + x1 * y2 * x3 * x3 * y3 * y3 * y3 * d + x1 * y2 * x3 * x3 * y3 - x1 * y2 * y3 * y3 * y3 + x1 * y2 * y3 + y1 * y1 * y1 * x2 * x2 * y2 * x3 * y3 * y3 * d + y1 * y1 * y1 * x2 * y2 * y2 * x3 * x3 * y3 * d - y1 * y1 * y1 * x2 * x3 * x3 * y3 * y3 * y3 * d - y1 * y1 * y1 * x2 * x3 * x3 * y3 + y1 * y1 * y1 * x2 * y3 * y3 * y3 - y1 * y1 * y1 * x2 * y3 - y1 * y1 * y1 * y2 * x3 * x3 * x3 * y3 * y3 * d - y1 * y1 * y1 * y2 * x3 * x3 * x3 + y1 * y1 * y1 * y2 * x3 * y3 * y3 - y1 * y1 * y1 * y2 * x3 - y1 * x2 * x2 * y2 * x3 * y3 * y3 * d - y1 * x2 * y2 * y2 * x3 * x3 * y3 * d + y1 * x2 * x3 * x3 * y3 * y3 * y3 * d + y1 * x2 * x3 * x3 * y3 - y1 * x2 * y3 * y3 * y3 + y1 * x2 * y3 + y1 * y2 * x3 * x3 * x3 * y3 * y3 * d + y1 * y2 * x3 * x3 * x3 - y1 * y2 * x3 * y3 * y3 + y1 * y2 * x3)) (c3 := (-(x1 * x1 * x1 * x2 * x2 * x2 * x3) - x1 * x1 * x1 * x2 * x2 * y2 * y3 + x1 * x1 * x1 * x2 * y2 * y2 * x3 - x1 * x1 * x1 * x2 * x3 + x1 * x1 * x1 * y2 * y2 * y2 * y3 - x1 * x1 * x1 * y2 * y3 - x1 * x1 * y1 * x2 * x2 * x2 * y3 - x1 * x1 * y1 * x2 * x2 * y2 * x3 * d - x1 * x1 * y1 * x2 * x2 * y2 * x3 + x1 * x1 * y1 * x2 * y2 * y2 * y3 * d + x1 * x1 * y1 * x2 * y2 * y2 * y3 - x1 * x1 * y1 * x2 * y3 + x1 * x1 * y1 * y2 * y2 * y2 * x3 - x1 * x1 * y1 * y2 * x3 + x1 * y1 * y1 * x2 * x2 * x2 * x3 + x1 * y1 * y1 * x2 * x2 * y2 * y3 * d + x1 * y1 * y1 * x2 * x2 * y2 * y3 - x1 * y1 * y1 * x2 * y2 * y2 * x3 * d - x1 * y1 * y1 * x2 * y2 * y2 * x3 + x1 * y1 * y1 * x2 * x3 - x1 * y1 * y1 * y2 * y2 * y2 * y3 + x1 * y1 * y1 * y2 * y3 - x1 * x2 * x2 * x2 * x3 - x1 * x2 * x2 * y2 * y3 + x1 * x2 * y2 * y2 * x3 - x1 * x2 * x3 + x1 * y2 * y2 * y2 * y3 - x1 * y2 * y3 + y1 * y1 * y1 * x2 * x2 * x2 * y3 + y1 * y1 * y1 * x2 * x2 * y2 * x3 - y1 * y1 * y1 * x2 * y2 * y2 * y3 + y1 * y1 * y1 * x2 * y3 - y1 * y1 * y1 * y2 * y2 * y2 * x3 + y1 * y1 * y1 * y2 * x3 - y1 * x2 * x2 * x2 * y3 - y1 * x2 * x2 * y2 * x3 + y1 * x2 * y2 * y2 * y3 - y1 * x2 * y3 + y1 * y2 * y2 * y2 * x3 - y1 * y2 * x3)) ?_ e1 e2 e3
 clear e1 e2 e3
 grind
set_option maxHeartbeats 2000000 in
theorem assoc_y {x1 y1 x2 y2 x3 y3 d : Fp} (e1 : y1 * y1 - x1 * x1 - 1 - d * (x1 * x1 * (y1 * y1)) = 0) (e2 : y2 * y2 - x2 * x2 - 1 - d * (x2 * x2 * (y2 * y2)) = 0) (e3 : y3 * y3 - x3 * x3 - 1 - d * (x3 * x3 * (y3 * y3)) = 0) :
  ((y1 * y2 + x1 * x2) * (1 + d * (x1 * x2 * (y1 * y2))) * y3 + (x1 * y2 + x2 * y1) * (1 - d * (x1 * x2 * (y1 * y2))) * x3) * ((1 + d * (x2 * x3 * (y2 * y3))) * (1 - d * (x2 * x3 * (y2 * y3))) - d * (x1 * y1 * ((x2 * y3 + x3 * y2) * (y2 * y3 + x2 * x3))))
  = (y1 * ((y2 * y3 + x2 * x3) * (1 + d * (x2 * x3 * (y2 * y3)))) + x1 * ((x2 * y3 + x3 * y2) * (1 - d * (x2 * x3 * (y2 * y3))))) * ((1 + d * (x1 * x2 * (y1 * y2))) * (1 - d * (x1 * x2 * (y1 * y2))) - d * ((x1 * y2 + x2 * y1) * (y1 * y2 + x1 * x2) * (x3 * y3))) := by
 refine lin3 (c1 := (x1 * x2 * x2 * x2 * x2 * y2 * y2 * y2 * x3 * y3 * y3 * d * d + x1 * x2 * x2 * x2 * x2 * y2 * x3 * y3 * y3 * d + x1 * x2 * x2 * x2 * y2 * y2 * y2 * y2 * x3 * x3 * y3 * d * d + x1 * x2 * x2 * x2 * y2 * y2 * y3 * y3 * y3 * d - x1 * x2 * x2 * x2 * y2 * y2 * y3 * d - x1 * x2 * x2 * y2 * y2 * y2 * x3 * x3 * x3 * d - x1 * x2 * x2 * y2 * y2 * y2 * x3 * d - x1 * x2 * y2 * y2 * y2 * y2 * x3 * x3 * y3 * d - y1 * x2 * x2 * x2 * x2 * y2 * y2 * y2 * x3 * x3 * y3 * d * d - y1 * x2 * x2 * x2 * x2 * y2 * x3 * x3 * y3 * d - y1 * x2 * x2 * x2 * y2 * y2 * y2 * y2 * x3 * y3 * y3 * d * d - y1 * x2 * x2 * x2 * y2 * y2 * x3 * x3 * x3 * d - y1 * x2 * x2 * x2 * y2 * y2 * x3 * d + y1 * x2 * x2 * y2 * y2 * y2 * y3 * y3 * y3 * d - y1 * x2 * x2 * y2 * y2 * y2 * y3 * d + y1 * x2 * y2 * y2 * y2 * y2 * x3 * y3 * y3 * d)) (c2 := (-(x1 * x1 * x1 * x2 * x2 * y2 * x3 * y3 * y3 * d) - x1 * x1 * x1 * x2 * y2 * y2 * x3 * x3 * y3 * d + x1 * x1 * x1 * x2 * x3 * x3 * y3 * y3 * y3 * d + x1 * x1 * x1 * x2 * x3 * x3 * y3 - x1 * x1 * x1 * x2 * y3 * y3 * y3 + x1 * x1 * x1 * x2 * y3 + x1 * x1 * x1 * y2 * x3 * x3 * x3 * y3 * y3 * d + x1 * x1 * x1 * y2 * x3 * x3 * x3 - x1 * x1 * x1 * y2 * x3 * y3 * y3 + x1 * x1 * x1 * y2 * x3 + x1 * x1 * y1 * x2 * x2 * y2 * x3 * x3 * y3 * y3 * y3 * d * d + x1 * x1 * y1 * x2 * x2 * y2 * x3 * x3 * y3 * d - x1 * x1 * y1 * x2 * y2 * y2 * x3 * x3 * x3 * y3 * y3 * d * d + x1 * x1 * y1 * x2 * y2 * y2 * x3 * y3 * y3 * d + x1 * x1 * y1 * x2 * x3 * x3 * x3 * y3 * y3 * d + x1 * x1 * y1 * x2 * x3 * x3 * x3 - x1 * x1 * y1 * x2 * x3 * y3 * y3 + x1 * x1 * y1 * x2 * x3 + x1 * x1 * y1 * y2 * x3 * x3 * y3 * y3 * y3 * d + x1 * x1 * y1 * y2 * x3 * x3 * y3 - x1 * x1 * y1 * y2 * y3 * y3 * y3 + x1 * x1 * y1 * y2 * y3 - x1 * y1 * y1 * x2 * x2 * y2 * x3 * x3 * x3 * y3 * y3 * d * d + x1 * y1 * y1 * x2 * x2 * y2 * x3 * y3 * y3 * d + x1 * y1 * y1 * x2 * y2 * y2 * x3 * x3 * y3 * y3 * y3 * d * d + x1 * y1 * y1 * x2 * y2 * y2 * x3 * x3 * y3 * d - x1 * y1 * y1 * x2 * x3 * x3 * y3 * y3 * y3 * d - x1 * y1 * y1 * x2 * x3 * x3 * y3 + x1 * y1 * y1 * x2 * y3 * y3 * y3 - x1 * y1 * y1 * x2 * y3 - x1 * y1 * y1 * y2 * x3 * x3 * x3 * y3 * y3 * d - x1 * y1 * y1 * y2 * x3 * x3 * x3 + x1 * y1 * y1 * y2 * x3 * y3 * y3 - x1 * y1 * y1 * y2 * x3 - x1 * x2 * x2 * y2 * x3 * y3 * y3 * d - x1 * x2 * y2 * y2 * x3 * x3 * y3 * d + x1 * x2 * x3 * x3 * y3 * y3 * y3 * d + x1 * x2 * x3 * x3 * y3 - x1 * x2 * y3 * y3 * y3 + x1 * x2 * y3 + x1 * y2 * x3 * x3 * x3 * y3 * y3 * d + x1 * y2 * x3 * x3 * x3 - x1 * y2 * x3 * y3 * y3 + x1 * y2 * x3 - y1 * y1 * y1 * x2 * x2 * y2 * x3 * x3 * y3 * d - y1 * y1 * y1 * x2 * y2 * y2 * x3 * y3 * y3 * d - y1 * y1 * y1 * x2 * x3 * x3 * x3 * y3 * y3 * d - y1 * y1 * y1 * x2 * x3 * x3 * x3 + y1 * y1 * y1 * x2 * x3 * y3 * y3 - y1 * y1 * y1 * x2 * x3 - y1 * y1 * y1 * y2 * x3 * x3 * y3 * y3 * y3 * d - y1 * y1 * y1 * y2 * x3 * x3 * y3 + y1 * y1 * y1 * y2 * y3 * y3 * y3 - y1 * y1 * y1 * y2 * y3 + y1 * x2 * x2 * y2 * x3 * x3 * y3 * d + y1 * x2 * y2 * y2 * x3 * y3 * y3 * d + y1 * x2 * x3 * x3 * x3 * y3 * y3 * d + y1 * x2 * x3 * x3 * x3 - y1 * x2 * x3 * y3 * y3 + y1 * x2 * x3 + y1 * y2 * x3 * x3 * y3 * y3 * y3 * d + y1 * y2 * x3 * x3 * y3 - y1 * y2 * y3 * y3 * y3 + y1 * y2 * y3)) (c3 := (-(x1 * x1 * x1 * x2 * x2 * x2 * y3) - x1 * x1 * x1 * x2 * x2 * y2 * x3 + x1 * x1 * x1 * x2 * y2 * y2 * y3 - x1 * x1 * x1 * x2 * y3 + x1 * x1 * x1 * y2 * y2 * y2 * x3 - x1 * x1 * x1 * y2 * x3 - x1 * x1 * y1 * x2 * x2 * x2 * x3 - x1 * x1 * y1 * x2 * x2 * y2 * y3 * d - x1 * x1 * y1 * x2 * x2 * y2 * y3 + x1 * x1 * y1 * x2 * y2 * y2 * x3 * d + x1 * x1 * y1 * x2 * y2 * y2 * x3 - x1 * x1 * y1 * x2 * x3 + x1 * x1 * y1 * y2 * y2 * y2 * y3 - x1 * x1 * y1 * y2 * y3 + x1 * y1 * y1 * x2 * x2 * x2 * y3 + x1 * y1 * y1 * x2 * x2 * y2 * x3 * d + x1 * y1 * y1 * x2 * x2 * y2 * x3 - x1 * y1 * y1 * x2 * y2 * y2 * y3 * d - x1 * y1 * y1 * x2 * y2 * y2 * y3 + x1 * y1 * y1 * x2 * y3 - x1 * y1 * y1 * y2 * y2 * y2 * x3 + x1 * y1 * y1 * y2 * x3 - x1 * x2 * x2 * x2 * y3 - x1 * x2 * x2 * y2 * x3 + x1 * x2 * y2 * y2 * y3 - x1 * x2 * y3 + x1 * y2 * y2 * y2 * x3 - x1 * y2 * x3 + y1 * y1 * y1 * x2 * x2 * x2 * x3 + y1 * y1 * y1 * x2 * x2 * y2 * y3 - y1 * y1 * y1 * x2 * y2 * y2 * x3 + y1 * y1 * y1 * x2 * x3 - y1 * y1 * y1 * y2 * y2 * y2 * y3 + y1 * y1 * y1 * y2 * y3 - y1 * x2 * x2 * x2 * x3 - y1 * x2 * x2 * y2 * y3 + y1 * x2 * y2 * y2 * x3 - y1 * x2 * x3 + y1 * y2 * y2 * y2 * y3 - y1 * y2 * y3)) ?_ e1 e2 e3
 clear e1 e2 e3
 grind
theorem On.zero {x y : Fp} (h : On x y) : y * y - x * x - 1 - dF * (x * x * (y * y)) = 0 := by
 unfold On at h
 rw [h]
 grind
theorem lift_x {d A B n m x' y' u v x : Fp} (hx : x' * A = n) (hy : y' * B = m) (h : x * (1 + d * (x' * u * (y' * v))) = x' * v + u * y') : x * (A * B + d * (n * m * (u * v))) = n * B * v + u * (m * A) := by
 subst hx hy
 have e : x * (A * B + d * (x' * A * (y' * B) * (u * v))) = x * (1 + d * (x' * u * (y' * v))) * (A * B) := by grind
 rw [e, h]
 grind
theorem lift_y {d A B n m x' y' u v y : Fp} (hx : x' * A = n) (hy : y' * B = m) (h : y * (1 - d * (x' * u * (y' * v))) = y' * v + x' * u) : y * (A * B - d * (n * m * (u * v))) = m * A * v + n * B * u := by
 subst hx hy
 have e : y * (A * B - d * (x' * A * (y' * B) * (u * v))) = y * (1 - d * (x' * u * (y' * v))) * (A * B) := by grind
 rw [e, h]
 grind
theorem lift_ne {d A B n m x' y' u v : Fp} (hx : x' * A = n) (hy : y' * B = m) (hA : A ≠ 0) (hB : B ≠ 0) (h : 1 + d * (x' * u * (y' * v)) ≠ 0) : A * B + d * (n * m * (u * v)) ≠ 0 := by
 subst hx hy
 have e : A * B + d * (x' * A * (y' * B) * (u * v)) = (1 + d * (x' * u * (y' * v))) * (A * B) := by grind
 rw [e]
 exact f_mul_ne h (f_mul_ne hA hB)
theorem lift_ne' {d A B n m x' y' u v : Fp} (hx : x' * A = n) (hy : y' * B = m) (hA : A ≠ 0) (hB : B ≠ 0) (h : 1 - d * (x' * u * (y' * v)) ≠ 0) : A * B - d * (n * m * (u * v)) ≠ 0 := by
 subst hx hy
 have e : A * B - d * (x' * A * (y' * B) * (u * v)) = (1 - d * (x' * u * (y' * v))) * (A * B) := by grind
 rw [e]
 exact f_mul_ne h (f_mul_ne hA hB)
theorem frac_eq {x z D E N M : Fp} (hD : D ≠ 0) (hE : E ≠ 0) (hx : x * D = N) (hz : z * E = M) (h : N * E = M * D) : x = z := by
 apply f_cancel (f_mul_ne hD hE)
 subst hx hz
 grind
theorem assoc_core {x1 y1 x2 y2 x3 y3 d a b c e xl yl xr yr : Fp}
  (e1 : y1 * y1 - x1 * x1 - 1 - d * (x1 * x1 * (y1 * y1)) = 0) (e2 : y2 * y2 - x2 * x2 - 1 - d * (x2 * x2 * (y2 * y2)) = 0) (e3 : y3 * y3 - x3 * x3 - 1 - d * (x3 * x3 * (y3 * y3)) = 0)
  (ha : a * (1 + d * (x1 * x2 * (y1 * y2))) = x1 * y2 + x2 * y1) (hb : b * (1 - d * (x1 * x2 * (y1 * y2))) = y1 * y2 + x1 * x2)
  (hc : c * (1 + d * (x2 * x3 * (y2 * y3))) = x2 * y3 + x3 * y2) (he : e * (1 - d * (x2 * x3 * (y2 * y3))) = y2 * y3 + x2 * x3)
  (n1 : 1 + d * (x1 * x2 * (y1 * y2)) ≠ 0) (n2 : 1 - d * (x1 * x2 * (y1 * y2)) ≠ 0) (n3 : 1 + d * (x2 * x3 * (y2 * y3)) ≠ 0) (n4 : 1 - d * (x2 * x3 * (y2 * y3)) ≠ 0)
  (n5 : 1 + d * (a * x3 * (b * y3)) ≠ 0) (n6 : 1 - d * (a * x3 * (b * y3)) ≠ 0) (n7 : 1 + d * (c * x1 * (e * y1)) ≠ 0) (n8 : 1 - d * (c * x1 * (e * y1)) ≠ 0)
  (hxl : xl * (1 + d * (a * x3 * (b * y3))) = a * y3 + x3 * b) (hyl : yl * (1 - d * (a * x3 * (b * y3))) = b * y3 + a * x3)
  (hxr : xr * (1 + d * (c * x1 * (e * y1))) = c * y1 + x1 * e) (hyr : yr * (1 - d * (c * x1 * (e * y1))) = e * y1 + c * x1) : xl = xr ∧ yl = yr := by
 have lx := lift_x ha hb hxl
 have ly := lift_y ha hb hyl
 have rx := lift_x hc he hxr
 have ry := lift_y hc he hyr
 have nl := lift_ne ha hb n1 n2 n5
 have nl' := lift_ne' ha hb n1 n2 n6
 have nr := lift_ne hc he n3 n4 n7
 have nr' := lift_ne' hc he n3 n4 n8
 have ax := assoc_x e1 e2 e3
 have ay := assoc_y e1 e2 e3
 clear ha hb hc he hxl hyl hxr hyr n1 n2 n3 n4 n5 n6 n7 n8 e1 e2 e3
 refine ⟨?_, ?_⟩
 ·refine frac_eq nl nr lx rx ?_
  clear nl nl' nr nr' lx rx ly ry ay
  have t1 : (1 + d * (x2 * x3 * (y2 * y3))) * (1 - d * (x2 * x3 * (y2 * y3))) + d * ((x2 * y3 + x3 * y2) * (y2 * y3 + x2 * x3) * (x1 * y1)) = (1 + d * (x2 * x3 * (y2 * y3))) * (1 - d * (x2 * x3 * (y2 * y3))) + d * (x1 * y1 * ((x2 * y3 + x3 * y2) * (y2 * y3 + x2 * x3))) := by
   rw [Fin.mul_comm _ (x1 * y1)]
  have t2 : (x2 * y3 + x3 * y2) * (1 - d * (x2 * x3 * (y2 * y3))) * y1 + x1 * ((y2 * y3 + x2 * x3) * (1 + d * (x2 * x3 * (y2 * y3)))) = x1 * ((y2 * y3 + x2 * x3) * (1 + d * (x2 * x3 * (y2 * y3)))) + (x2 * y3 + x3 * y2) * (1 - d * (x2 * x3 * (y2 * y3))) * y1 := by grind
  rw [t1, t2]
  exact ax
 ·refine frac_eq nl' nr' ly ry ?_
  clear nl nl' nr nr' lx rx ly ry ax
  have t1 : (1 + d * (x2 * x3 * (y2 * y3))) * (1 - d * (x2 * x3 * (y2 * y3))) - d * ((x2 * y3 + x3 * y2) * (y2 * y3 + x2 * x3) * (x1 * y1)) = (1 + d * (x2 * x3 * (y2 * y3))) * (1 - d * (x2 * x3 * (y2 * y3))) - d * (x1 * y1 * ((x2 * y3 + x3 * y2) * (y2 * y3 + x2 * x3))) := by
   rw [Fin.mul_comm _ (x1 * y1)]
  have t2 : (y2 * y3 + x2 * x3) * (1 + d * (x2 * x3 * (y2 * y3))) * y1 + (x2 * y3 + x3 * y2) * (1 - d * (x2 * x3 * (y2 * y3))) * x1 = y1 * ((y2 * y3 + x2 * x3) * (1 + d * (x2 * x3 * (y2 * y3)))) + x1 * ((x2 * y3 + x3 * y2) * (1 - d * (x2 * x3 * (y2 * y3)))) := by
   rw [Fin.mul_comm _ y1, Fin.mul_comm _ x1]
  rw [t1, t2]
  exact ay
theorem padd_assoc' (P Q R : Pt) : (padd (padd P Q) R).x = (padd (padd Q R) P).x ∧ (padd (padd P Q) R).y = (padd (padd Q R) P).y :=
 assoc_core P.on.zero Q.on.zero R.on.zero (padd_x P Q) (padd_y P Q) (padd_x Q R) (padd_y Q R) (on_plus P.on Q.on) (on_minus P.on Q.on) (on_plus Q.on R.on) (on_minus Q.on R.on)
  (on_plus (padd P Q).on R.on) (on_minus (padd P Q).on R.on) (on_plus (padd Q R).on P.on) (on_minus (padd Q R).on P.on)
  (padd_x (padd P Q) R) (padd_y (padd P Q) R) (padd_x (padd Q R) P) (padd_y (padd Q R) P)
theorem padd_assoc (P Q R : Pt) : padd (padd P Q) R = padd P (padd Q R) :=
 Eq.trans (b := padd (padd Q R) P) (Pt.ext' (padd_assoc' P Q R).1 (padd_assoc' P Q R).2) (padd_comm (padd Q R) P)
def pmul : Nat → Pt → Pt
 | 0, _ => pzero
 | n + 1, P => padd (pmul n P) P
theorem pmul_zero (P : Pt) : pmul 0 P = pzero := rfl
theorem pmul_succ (n : Nat) (P : Pt) : pmul (n + 1) P = padd (pmul n P) P := rfl
theorem pmul_one (P : Pt) : pmul 1 P = P := zero_padd P
theorem pmul_add (m : Nat) (P : Pt) : ∀ n, pmul (m + n) P = padd (pmul m P) (pmul n P)
 | 0 => by rw [Nat.add_zero, pmul_zero, padd_zero]
 | n + 1 => by
  rw [← Nat.add_assoc, pmul_succ, pmul_succ, pmul_add m P n, padd_assoc]
theorem pmul_two (n : Nat) (P : Pt) : pmul (2 * n) P = padd (pmul n P) (pmul n P) := by
 rw [Nat.two_mul, pmul_add]
theorem pmul_mul (m : Nat) (P : Pt) : ∀ n, pmul (n * m) P = pmul n (pmul m P)
 | 0 => by rw [Nat.zero_mul]; rfl
 | n + 1 => by
  rw [Nat.add_mul, Nat.one_mul, pmul_add, pmul_mul m P n, pmul_succ]
theorem pmul_comm (m n : Nat) (P : Pt) : pmul m (pmul n P) = pmul n (pmul m P) := by
 rw [← pmul_mul, ← pmul_mul, Nat.mul_comm]
theorem pmul_pzero : ∀ n, pmul n pzero = pzero
 | 0 => rfl
 | n + 1 => by rw [pmul_succ, pmul_pzero n, padd_zero]
theorem padd_left_comm (P Q R : Pt) : padd P (padd Q R) = padd Q (padd P R) := by
 rw [← padd_assoc, padd_comm P Q, padd_assoc]
theorem pmul_padd (P Q : Pt) : ∀ n, pmul n (padd P Q) = padd (pmul n P) (pmul n Q)
 | 0 => by rw [pmul_zero, pmul_zero, pmul_zero, padd_zero]
 | n + 1 => by
  rw [pmul_succ, pmul_succ, pmul_succ, pmul_padd P Q n, padd_assoc, padd_assoc, padd_left_comm (pmul n Q)]
theorem pmul_mod {q : Nat} {P : Pt} (h : pmul q P = pzero) (n : Nat) : pmul (n % q) P = pmul n P := by
 have e : n = n / q * q + n % q := (Nat.div_add_mod' n q).symm
 conv => rhs; rw [e, pmul_add, pmul_mul, h, pmul_pzero, zero_padd]
theorem f_add_self {a : Fp} (h : a + a = 0) : a = 0 := by
 have : 2 * a = 0 := by grind
 rcases f_dom this with h | h
 ·exact absurd h f_two_ne
 ·exact h
theorem f_both {a b : Fp} (h : a + b = 0) (g : a - b = 0) : a = 0 ∧ b = 0 := by
 have h1 : a + a = 0 := by grind
 have h2 := f_add_self h1
 subst h2
 rw [Fin.zero_add] at h
 exact ⟨rfl, h⟩
theorem f_sq {a : Fp} (h : a * a = 0) : a = 0 := by
 rcases f_dom h with h | h <;> exact h
theorem f_self (a : Fp) : a - a = 0 := by grind
theorem f_flip {a b : Fp} (h : a - b = 0) : b - a = 0 := by rw [f_sub h, f_self]
theorem f_comm (a b : Fp) : a + b = b + a := by grind
theorem f_neg_prod (a b c : Fp) : (-(a * b) - c) * (-(a * b) + c) = a * a * (b * b) - c * c := by grind
def Rep (P : Pt) (X Z : Fp) : Prop := X - Z = P.y * (X + Z) ∧ X + Z ≠ 0
theorem f_c_ne : (121666 : Fp) ≠ 0 := by
 have e : (121666 : Fp) = fp 121666 := by decide +kernel
 rw [e]
 intro h
 have := fp_zero_iff.1 h
 revert this
 decide +kernel
theorem dbl_core {x y z d c : Fp} (hd : d * (c + 1) = -c) (hc : c + 1 ≠ 0) (h : y * y - x * x = 1 + d * (x * x * (y * y))) (hm : 1 - d * (x * x * (y * y)) ≠ 0) (hz : z * (1 - d * (x * x * (y * y))) = y * y + x * x) :
  y * y - (1 - y * y) * (1 + c * (1 - y * y)) = z * (y * y + (1 - y * y) * (1 + c * (1 - y * y))) := by
 have m1 : 1 - d * (x * x * (y * y)) = 2 + x * x - y * y := by grind
 rw [m1] at hm hz
 apply f_cancel hm
 have r : z * (y * y + (1 - y * y) * (1 + c * (1 - y * y))) * (2 + x * x - y * y) = z * (2 + x * x - y * y) * (y * y + (1 - y * y) * (1 + c * (1 - y * y))) := by grind
 rw [r, hz]
 clear r hm hz m1
 -- x^2 (c + 1 - c y^2) = (c + 1) (y^2 - 1)
 have k : x * x * (c + 1 - c * (y * y)) = (c + 1) * (y * y - 1) := by
  have k1 : (c + 1) * (y * y - x * x) = (c + 1) + d * (c + 1) * (x * x * (y * y)) := by rw [h]; grind
  rw [hd] at k1
  grind
 have k2 : (1 + c - c * (y * y)) * (1 + x * x) = y * y := by grind
 have e1 : (y * y - (1 - y * y) * (1 + c * (1 - y * y))) * (2 + x * x - y * y) - (y * y + x * x) * (y * y + (1 - y * y) * (1 + c * (1 - y * y))) = 2 * (1 - y * y) * (y * y - (1 + c - c * (y * y)) * (1 + x * x)) := by
  clear k k2 h hd hc
  grind
 apply f_sub
 rw [e1, k2]
 clear e1 k k2 h hd hc
 grind
theorem rep_dbl {P : Pt} {X Z : Fp} (h : Rep P X Z) :
  Rep (padd P P) ((X + Z) * (X + Z) * ((X - Z) * (X - Z))) (((X + Z) * (X + Z) - (X - Z) * (X - Z)) * ((X + Z) * (X + Z) + 121665 * ((X + Z) * (X + Z) - (X - Z) * (X - Z)))) := by
 obtain ⟨h1, h2⟩ := h
 rw [h1]
 generalize X + Z = a at h2
 clear h1
 have hd : dF * (121665 + 1) = -121665 := by
  have e : (121665 : Fp) + 1 = 121666 := by decide +kernel
  rw [e]
  exact dF_eq
 have hc : (121665 : Fp) + 1 ≠ 0 := by
  have e : (121665 : Fp) + 1 = 121666 := by decide +kernel
  rw [e]
  exact f_c_ne
 have key := dbl_core hd hc P.on (on_minus P.on P.on) (padd_y P P)
 unfold Rep
 generalize (padd P P).y = z at key ⊢
 generalize (121665 : Fp) = c at *
 generalize hy : P.y = y at *
 have s : a * a * (y * a * (y * a)) = a * a * (a * a) * (y * y) := by grind
 have t : (a * a - y * a * (y * a)) * (a * a + c * (a * a - y * a * (y * a))) = a * a * (a * a) * ((1 - y * y) * (1 + c * (1 - y * y))) := by grind
 rw [s, t]
 have ha : a * a * (a * a) ≠ 0 := f_mul_ne (f_mul_ne h2 h2) (f_mul_ne h2 h2)
 generalize a * a * (a * a) = k at *
 refine ⟨?_, fun hn => ?_⟩
 ·have e1 : k * (y * y) - k * ((1 - y * y) * (1 + c * (1 - y * y))) = k * (y * y - (1 - y * y) * (1 + c * (1 - y * y))) := by grind
  rw [e1, key]
  clear e1 key
  grind
 ·have e1 : k * (y * y) + k * ((1 - y * y) * (1 + c * (1 - y * y))) = (y * y + (1 - y * y) * (1 + c * (1 - y * y))) * k := by grind
  rw [e1] at hn
  rcases f_dom hn with hn | hn
  ·rw [hn, Fin.mul_zero] at key
   obtain ⟨g1, g2⟩ := f_both hn key
   have g3 := f_sq g1
   subst g3
   apply hc
   have : (1 - 0 * 0) * (1 + c * (1 - 0 * 0)) = c + 1 := by grind
   rw [← this]
   exact g2
  ·exact ha hn
theorem dif_core {x2 y2 x3 y3 s u d : Fp} (h2 : y2 * y2 - x2 * x2 - 1 - d * (x2 * x2 * (y2 * y2)) = 0) (h3 : y3 * y3 - x3 * x3 - 1 - d * (x3 * x3 * (y3 * y3)) = 0)
  (ha : 1 + d * (x2 * x3 * (y2 * y3)) ≠ 0) (hb : 1 - d * (x2 * x3 * (y2 * y3)) ≠ 0)
  (hs : s * (1 - d * (x2 * x3 * (y2 * y3))) = y2 * y3 + x2 * x3) (hu : u * (1 + d * (x2 * x3 * (y2 * y3))) = y2 * y3 - x2 * x3) :
  (y2 + y3) * (y2 + y3) * ((1 - s) * (1 - u)) = (y3 - y2) * (y3 - y2) * ((1 + s) * (1 + u)) := by
 apply f_cancel (f_mul_ne ha hb)
 have l : (y2 + y3) * (y2 + y3) * ((1 - s) * (1 - u)) * ((1 + d * (x2 * x3 * (y2 * y3))) * (1 - d * (x2 * x3 * (y2 * y3)))) = (y2 + y3) * (y2 + y3) * ((1 - d * (x2 * x3 * (y2 * y3)) - s * (1 - d * (x2 * x3 * (y2 * y3)))) * (1 + d * (x2 * x3 * (y2 * y3)) - u * (1 + d * (x2 * x3 * (y2 * y3))))) := by
  generalize d * (x2 * x3 * (y2 * y3)) = e
  clear hs hu ha hb h2 h3
  grind
 have r : (y3 - y2) * (y3 - y2) * ((1 + s) * (1 + u)) * ((1 + d * (x2 * x3 * (y2 * y3))) * (1 - d * (x2 * x3 * (y2 * y3)))) = (y3 - y2) * (y3 - y2) * ((1 - d * (x2 * x3 * (y2 * y3)) + s * (1 - d * (x2 * x3 * (y2 * y3)))) * (1 + d * (x2 * x3 * (y2 * y3)) + u * (1 + d * (x2 * x3 * (y2 * y3))))) := by
  generalize d * (x2 * x3 * (y2 * y3)) = e
  clear hs hu ha hb h2 h3
  grind
 rw [l, r, hs, hu]
 clear l r hs hu ha hb
 refine lin2 (c1 := (4 * y2 * x3 * x3 * y3 * y3 * y3 * d + 4 * y2 * x3 * x3 * y3)) (c2 := (4 * y2 * y2 * y2 * y3 - 4 * y2 * y3)) ?_ h2 h3
 clear h2 h3
 grind
theorem rep_dif {P2 P3 Q : Pt} {X2 Z2 X3 Z3 x1 : Fp} (h2 : Rep P2 X2 Z2) (h3 : Rep P3 X3 Z3) (hq : padd P2 Q = P3 ∨ padd P3 Q = P2) (hx : x1 * (1 - Q.y) = 1 + Q.y) (hx0 : x1 ≠ 0) :
  Rep (padd P2 P3) (((X3 - Z3) * (X2 + Z2) + (X3 + Z3) * (X2 - Z2)) * ((X3 - Z3) * (X2 + Z2) + (X3 + Z3) * (X2 - Z2))) (x1 * (((X3 - Z3) * (X2 + Z2) - (X3 + Z3) * (X2 - Z2)) * ((X3 - Z3) * (X2 + Z2) - (X3 + Z3) * (X2 - Z2)))) := by
 obtain ⟨h2a, h2b⟩ := h2
 obtain ⟨h3a, h3b⟩ := h3
 rw [h2a, h3a]
 generalize X2 + Z2 = a at h2b
 generalize X3 + Z3 = c at h3b
 clear h2a h3a
 -- the difference's y
 have hu : Q.y * (1 + dF * (P2.x * P3.x * (P2.y * P3.y))) = P2.y * P3.y - P2.x * P3.x := by
  rcases hq with hq | hq
  ·have e : Q = padd (pneg P2) P3 := by rw [← hq, ← padd_assoc, padd_comm (pneg P2), padd_neg, zero_padd]
   have := padd_y (pneg P2) P3
   rw [← e] at this
   have l : 1 + dF * (P2.x * P3.x * (P2.y * P3.y)) = 1 - dF * ((pneg P2).x * P3.x * ((pneg P2).y * P3.y)) := by
    show _ = 1 - dF * (-P2.x * P3.x * (P2.y * P3.y))
    generalize P2.x = x2; generalize P3.x = x3; generalize P2.y = y2; generalize P3.y = y3
    grind
   rw [l, this]
   show P2.y * P3.y + -P2.x * P3.x = _
   generalize P2.x = x2; generalize P3.x = x3; generalize P2.y = y2; generalize P3.y = y3
   grind
  ·have e : Q = padd (pneg P3) P2 := by rw [← hq, ← padd_assoc, padd_comm (pneg P3), padd_neg, zero_padd]
   have := padd_y (pneg P3) P2
   rw [← e] at this
   have l : 1 + dF * (P2.x * P3.x * (P2.y * P3.y)) = 1 - dF * ((pneg P3).x * P2.x * ((pneg P3).y * P2.y)) := by
    show _ = 1 - dF * (-P3.x * P2.x * (P3.y * P2.y))
    generalize P2.x = x2; generalize P3.x = x3; generalize P2.y = y2; generalize P3.y = y3
    grind
   rw [l, this]
   show P3.y * P2.y + -P3.x * P2.x = _
   generalize P2.x = x2; generalize P3.x = x3; generalize P2.y = y2; generalize P3.y = y3
   grind
 have on2 := P2.on
 have on3 := P3.on
 have key := dif_core P2.on.zero P3.on.zero (on_plus P2.on P3.on) (on_minus P2.on P3.on) (padd_y P2 P3) hu
 unfold Rep
 unfold On at on2 on3
 clear hq
 generalize (padd P2 P3).y = s at key ⊢
 generalize Q.y = u at *
 generalize P2.y = y2 at *
 generalize P3.y = y3 at *
 generalize P2.x = x2 at *
 generalize P3.x = x3 at *
 have e1 : (y3 * c * a + c * (y2 * a)) * (y3 * c * a + c * (y2 * a)) = c * a * (c * a) * ((y2 + y3) * (y2 + y3)) := by
  clear key hu hx on2 on3
  grind
 have e2 : x1 * ((y3 * c * a - c * (y2 * a)) * (y3 * c * a - c * (y2 * a))) = c * a * (c * a) * (x1 * ((y3 - y2) * (y3 - y2))) := by
  clear key hu hx on2 on3
  grind
 rw [e1, e2]
 clear e1 e2
 have hk : c * a * (c * a) ≠ 0 := f_mul_ne (f_mul_ne h3b h2b) (f_mul_ne h3b h2b)
 generalize c * a * (c * a) = k at hk
 clear h2b h3b
 have hu1 : 1 - u ≠ 0 := fun e => by
  rw [e, Fin.mul_zero] at hx
  have : u = 1 := by grind
  subst this
  have h2 : (2 : Fp) = 0 := by
   have : (2 : Fp) = 1 + 1 := by decide +kernel
   rw [this, ← hx]
  exact f_two_ne h2
 -- (y2 + y3)^2 (1 - s) = x1 (y3 - y2)^2 (1 + s)
 have main : (y2 + y3) * (y2 + y3) * (1 - s) = x1 * ((y3 - y2) * (y3 - y2)) * (1 + s) := by
  apply f_cancel hu1
  have r : x1 * ((y3 - y2) * (y3 - y2)) * (1 + s) * (1 - u) = (y3 - y2) * (y3 - y2) * ((1 + s) * (x1 * (1 - u))) := by
   clear key hu hx on2 on3
   grind
  rw [r, hx, ← key]
  clear key r hu hx on2 on3
  grind
 refine ⟨?_, fun hn => ?_⟩
 ·have t : (y2 + y3) * (y2 + y3) - x1 * ((y3 - y2) * (y3 - y2)) = s * ((y2 + y3) * (y2 + y3) + x1 * ((y3 - y2) * (y3 - y2))) := by
   clear key hu hx on2 on3
   generalize (y2 + y3) * (y2 + y3) = A at *
   generalize x1 * ((y3 - y2) * (y3 - y2)) = B at *
   grind
  clear key hu hx on2 on3 main
  generalize (y2 + y3) * (y2 + y3) = A at *
  generalize x1 * ((y3 - y2) * (y3 - y2)) = B at *
  have l : k * A - k * B = k * (A - B) := by clear t; grind
  have r : s * (k * A + k * B) = k * (s * (A + B)) := by clear t; grind
  rw [l, r, t]
 ·have n1 : k * ((y2 + y3) * (y2 + y3) + x1 * ((y3 - y2) * (y3 - y2))) = 0 := by
   rw [← hn]
   clear key hu hx on2 on3 main hn
   grind
  have n2 : (y2 + y3) * (y2 + y3) + x1 * ((y3 - y2) * (y3 - y2)) = 0 := by
   rcases f_dom n1 with e | e
   ·exact absurd e hk
   ·exact e
  have n3 : (y2 + y3) * (y2 + y3) - x1 * ((y3 - y2) * (y3 - y2)) = 0 := by
   have : (y2 + y3) * (y2 + y3) - x1 * ((y3 - y2) * (y3 - y2)) = s * ((y2 + y3) * (y2 + y3) + x1 * ((y3 - y2) * (y3 - y2))) := by
    clear key hu hx on2 on3 n1 n2 hn
    generalize (y2 + y3) * (y2 + y3) = A at *
    generalize x1 * ((y3 - y2) * (y3 - y2)) = B at *
    grind
   rw [this, n2, Fin.mul_zero]
  obtain ⟨m1, m2⟩ := f_both n2 n3
  have m3 := f_sq m1
  have m4 : y3 - y2 = 0 := by
   rcases f_dom m2 with e | e
   ·exact absurd e hx0
   ·exact f_sq e
  clear n1 n2 n3 m1 m2 hn main key
  have m5 : y3 + y2 = 0 := by rw [← m3]; grind
  obtain ⟨z3, z2⟩ := f_both m5 m4
  subst z3 z2
  simp only [Fin.mul_zero, Fin.add_zero] at on2 on3 hu
  -- both points have y = 0: x^2 = -1, and the difference is nought or its opposite
  have q2 : x2 * x2 = -1 := lin (-1) on2 (by clear hu hx on3 on2 m3 m4 m5; generalize x2 * x2 = A; grind)
  have q3 : x3 * x3 = -1 := lin (-1) on3 (by clear hu hx on3 on2 m3 m4 m5 q2; generalize x3 * x3 = A; grind)
  have q4 : u = -(x2 * x3) := lin 1 hu (by clear hu hx on2 on3 m3 m4 m5 q2 q3; generalize x2 * x3 = A; grind)
  have q5 : (u - 1) * (u + 1) = 0 := by
   rw [q4, f_neg_prod, q2, q3]
   decide +kernel
  rcases f_dom q5 with e | e
  ·exact hu1 (f_flip e)
  ·apply hx0
   have hz : x1 * (1 - u) = 0 := by rw [hx, f_comm, e]
   rcases f_dom hz with e | e
   ·exact e
   ·exact absurd e hu1
end Go.Proofs.YtimmnieopifcbaaDoor
