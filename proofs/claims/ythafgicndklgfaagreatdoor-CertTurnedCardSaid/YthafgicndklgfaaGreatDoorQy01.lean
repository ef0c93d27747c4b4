/- Lemmas. -/
import Derived.WalkKit
import Derived.WalkSpells
import Derived.WalkLawsBesides
import Derived.Lib.Hide
import Derived.Deep.QuietTactic
import Derived.BigQuiet
import Derived.Deep.RegionHeld3
import Derived.Deep.AppendLies
import Derived.OneCell
import Derived.Deep.RegionHeld
import Derived.KernelRfl
import Derived.ProofKit
import Derived.Deep.Slices
import Derived.Laws.Cover2
import Derived.OpenShut
import Derived.Test.YthafgicndklgfaaGreatDoorRows
import Derived.Deep.MidRow
import Derived.LaidMore
import Derived.Stop.Joined
import Derived.SevenTiedAt
import Derived.Deep.Quiet
import Derived.OrdersHeld
import Derived.ChangeKeysEq
import Derived.Laws.ResultCell
import Derived.Great.BuildSlice
import Derived.Laws.Tables
import Derived.Deep.CutRange
import Derived.Deep.RegionWith
import Derived.Laws.Entries
import Derived.StillTailTactics
import Derived.ScopeJumps
import Derived.Control
import Derived.WalkMore
import Derived.Deep.Strs
import Derived.Laws.StructEq
import Derived.Lib.AppendZeros
import Derived.Laws.Slices
import Derived.Laws.CopyOwn
import Derived.Lib.Mul64
import Derived.Laws.Bits64b
import Derived.Laws.Externs
import Derived.Lib.ConvBytes
import Derived.Laws.AppendOwn
import Derived.Lib.SlBytesConst
import Derived.Laws.MakeOwn
import Derived.Deep.CutBlock
namespace Go.Proofs.YthafgicndklgfaaGreatDoor
set_option linter.unusedVariables false
set_option maxRecDepth 100000
set_option maxHeartbeats 32000000
set_option linter.unusedSimpArgs false
open Go.RowKit
theorem q100 : type_of% @Tryz.underlying23 := @Tryz.underlying23
theorem q101 : type_of% @List.length_map := @List.length_map
theorem q102 : type_of% @Nat.le_refl := @Nat.le_refl
theorem q103 : type_of% @Tryz.underlying68 := @Tryz.underlying68
theorem q104 : type_of% @Tryz.underlying147 := @Tryz.underlying147
theorem q105 : type_of% @Tryz.isAgg134 := @Tryz.isAgg134
theorem q106 : type_of% @Tryz.sizeOf134 := @Tryz.sizeOf134
theorem q107 : type_of% @Tryz.underlying46 := @Tryz.underlying46
theorem q108 : type_of% @List.length_append := @List.length_append
theorem q109 : type_of% @Tryz.zeroValue23 := @Tryz.zeroValue23
theorem q110 : type_of% @List.take_of_length_le := @List.take_of_length_le
theorem q111 : type_of% @Tryz.underlying5 := @Tryz.underlying5
theorem q112 : type_of% @List.length_take := @List.length_take
theorem q113 : type_of% @Tryz.underlying85 := @Tryz.underlying85
theorem q114 : type_of% @Nat.lt_of_lt_of_le := @Nat.lt_of_lt_of_le
theorem q115 : type_of% @Tryz.sizeOf5 := @Tryz.sizeOf5
theorem q116 : type_of% @Nat.lt_or_ge := @Nat.lt_or_ge
theorem q117 : type_of% @List.take_append_drop := @List.take_append_drop
theorem q118 : type_of% @List.nil_append := @List.nil_append
theorem q119 : type_of% @Tryz.underlying26 := @Tryz.underlying26
theorem q120 : type_of% @Nat.mod_eq_of_lt := @Nat.mod_eq_of_lt
theorem q121 : type_of% @Nat.le_trans := @Nat.le_trans
theorem q122 : type_of% @Int.pow_succ := @Int.pow_succ
theorem q123 : type_of% @Tryz.zeroValue68 := @Tryz.zeroValue68
theorem q124 : type_of% @Tryz.call135 := @Tryz.call135
theorem q125 : type_of% @Nat.zero_add := @Nat.zero_add
theorem q126 : type_of% @List.length_cons := @List.length_cons
theorem q127 : type_of% @List.map_set := @List.map_set
theorem q128 : type_of% @Nat.pow_succ := @Nat.pow_succ
theorem q129 : type_of% @Nat.mul_comm := @Nat.mul_comm
theorem q130 : type_of% @Tryz.underlying154 := @Tryz.underlying154
theorem q131 : type_of% @Tryz.underlying28 := @Tryz.underlying28
theorem q132 : type_of% @Tryz.underlying70 := @Tryz.underlying70
theorem q133 : type_of% @List.length_replicate := @List.length_replicate
theorem q134 : type_of% @List.map_append := @List.map_append
theorem q135 : type_of% @Int.pow_add := @Int.pow_add
theorem q136 : type_of% @List.append_nil := @List.append_nil
theorem q137 : type_of% @List.append_assoc := @List.append_assoc
theorem q138 : type_of% @World.block_lt_of_cell? := @World.block_lt_of_cell?
theorem q139 : type_of% @List.length_drop := @List.length_drop
theorem q140 : type_of% @Nat.mod_lt := @Nat.mod_lt
theorem q141 : type_of% @Tryz.underlying88 := @Tryz.underlying88
theorem q142 : type_of% @Tryz.call87 := @Tryz.call87
theorem q143 : type_of% @Tryz.call83 := @Tryz.call83
theorem q144 : type_of% @Tryz.underlying39 := @Tryz.underlying39
theorem q145 : type_of% @Nat.and_two_pow_sub_one_eq_mod := @Nat.and_two_pow_sub_one_eq_mod
theorem q146 : type_of% @List.set_append_right := @List.set_append_right
theorem q147 : type_of% @Tryz.underlying3 := @Tryz.underlying3
theorem q148 : type_of% @Tryz.call113 := @Tryz.call113
theorem q149 : type_of% @Nat.zero_le := @Nat.zero_le
theorem q150 : type_of% @Nat.eq_zero_or_pos := @Nat.eq_zero_or_pos
theorem q151 : type_of% @Int.mul_nonneg := @Int.mul_nonneg
theorem q152 : type_of% @Nat.sub_self := @Nat.sub_self
theorem q153 : type_of% @List.map_cons := @List.map_cons
theorem q154 : type_of% @List.length_set := @List.length_set
theorem q155 : type_of% @Tryz.underlying127 := @Tryz.underlying127
theorem q156 : type_of% @Tryz.underlying134 := @Tryz.underlying134
theorem q157 : type_of% @Nat.div_eq_of_lt := @Nat.div_eq_of_lt
theorem q158 : type_of% @Nat.min_eq_left := @Nat.min_eq_left
theorem q159 : type_of% @List.take_succ_eq_append_getElem := @List.take_succ_eq_append_getElem
theorem q160 : type_of% @List.length_nil := @List.length_nil
theorem q161 : type_of% @List.take_append_of_le_length := @List.take_append_of_le_length
theorem q162 : type_of% @List.drop_eq_nil_of_le := @List.drop_eq_nil_of_le
theorem q163 : type_of% @Tryz.underlying160 := @Tryz.underlying160
theorem q164 : type_of% @List.drop_eq_getElem_cons := @List.drop_eq_getElem_cons
theorem q165 : type_of% @List.not_mem_nil := @List.not_mem_nil
theorem q166 : type_of% @List.drop_drop := @List.drop_drop
theorem q167 : type_of% @Tryz.underlying137 := @Tryz.underlying137
theorem q168 : type_of% @Tryz.underlying135 := @Tryz.underlying135
theorem q169 : type_of% @List.flatten_append := @List.flatten_append
theorem q170 : type_of% @List.cons_append := @List.cons_append
theorem q171 : type_of% @Int.emod_eq_of_lt := @Int.emod_eq_of_lt
theorem q172 : type_of% @Int.emod_lt_of_pos := @Int.emod_lt_of_pos
theorem q173 : type_of% @List.take_length := @List.take_length
theorem q174 : type_of% @List.replicate_append_replicate := @List.replicate_append_replicate
theorem q175 : type_of% @Tryz.underlying174 := @Tryz.underlying174
theorem q176 : type_of% @Tryz.underlying4 := @Tryz.underlying4
theorem q177 : type_of% @Nat.div_div_eq_div_mul := @Nat.div_div_eq_div_mul
theorem q178 : type_of% @Nat.pow_le_pow_right := @Nat.pow_le_pow_right
theorem q179 : type_of% @List.eq_nil_of_length_eq_zero := @List.eq_nil_of_length_eq_zero
theorem nrm {α : Type} : (∀ (l : List α) (i : Nat) (h : i < l.toArray.size), l.toArray[i] = l[i]'(by simpa using h)) ∧ (∀ (a : α) (l : List α) (h : 0 < (a :: l).length), (a :: l)[0] = a) ∧ (∀ (a : α) (l : List α) (i : Nat) (h : i + 1 < (a :: l).length), (a :: l)[i + 1] = l[i]'(by simpa using h)) ∧
  (∀ (l : List α) (i : Nat) (a : α), l.toArray.setIfInBounds i a = (l.set i a).toArray) ∧ (∀ (a b : α) (l : List α), (a :: l).set 0 b = b :: l) ∧ (∀ (a b : α) (l : List α) (i : Nat), (a :: l).set (i + 1) b = a :: l.set i b) :=
 ⟨fun _ _ _ => by simp, fun _ _ _ => rfl, fun _ _ _ _ => rfl, fun _ _ _ => by simp, fun _ _ _ => rfl, fun _ _ _ _ => rfl⟩
theorem nm : (∀ (a : Act) (i : Nat) (v : Value), a.put (some i) v = { a with tmps := a.tmps.setIfInBounds i v }) ∧ (∀ (a : Act) (v : Value), a.put none v = a) ∧
  (∀ (l : List Value) (i : Nat) (a : Value), l.toArray.setIfInBounds i a = (l.set i a).toArray) ∧ (∀ (a b : Value) (l : List Value), (a :: l).set 0 b = b :: l) ∧ (∀ (a b : Value) (l : List Value) (i : Nat), (a :: l).set (i + 1) b = a :: l.set i b) ∧
  (∀ (l : List Oper) (i : Nat) (h : i < l.toArray.size), l.toArray[i] = l[i]'(by simpa using h)) ∧ (∀ (a : Oper) (l : List Oper) (h : 0 < (a :: l).length), (a :: l)[0] = a) ∧ (∀ (a : Oper) (l : List Oper) (i : Nat) (h : i + 1 < (a :: l).length), (a :: l)[i + 1] = l[i]'(by simpa using h)) ∧
  (∀ (l : List Value) (i : Nat) (h : i < l.toArray.size), l.toArray[i] = l[i]'(by simpa using h)) ∧ (∀ (a : Value) (l : List Value) (h : 0 < (a :: l).length), (a :: l)[0] = a) ∧ (∀ (a : Value) (l : List Value) (i : Nat) (h : i + 1 < (a :: l).length), (a :: l)[i + 1] = l[i]'(by simpa using h)) :=
 ⟨fun _ _ _ => rfl, fun _ _ => rfl, fun _ _ _ => by simp, fun _ _ _ => rfl, fun _ _ _ _ => rfl, fun _ _ _ => by simp, fun _ _ _ => rfl, fun _ _ _ _ => rfl, fun _ _ _ => by simp, fun _ _ _ => rfl, fun _ _ _ _ => rfl⟩
theorem jh {p : Prop} (h : p) : RowKit.Hid p := Lib.hid h
theorem rdy {P : Program} {ops : Array Oper} {Q : Exit → Act → World → Prop} {md : Region.Mode} {S : World → Prop} {fuel : Nat} {listed : Array Bool} {a : Act} {w : World} (i : Nat) {o : Oper} (ho : ops[i]? = some o)
  (k : ∀ K' : Act → World → Prop, Shut (∀ a w, S w → (S w → wpAnyH P md ops Q S fuel (listed.setIfInBounds i true) a w) → K' a w) → if Region.wanted o (yielded ops a.tmps) = true then Oper.wp P o a w K' Q else K' (a.put o.dst undef) w)
  (hr : Region.ready md ops listed = [i] := by kernel_rfl) : wpAnyH P md ops Q S (fuel + 1) listed a w :=
 wpAnyH_ready (rs := [i]) hr (by simp) (AllReadyH.cons ho k AllReadyH.nil)
theorem tke {P : Program} {ops : Array Oper} {Q : Exit → Act → World → Prop} {md : Region.Mode} {S : World → Prop} {fuel : Nat} {listed : Array Bool} {a : Act} {w : World} (i : Nat) (v : Value) {oi : Oper} (ho : ops[i]? = some oi)
  (y : YieldsIf P ops S oi v a) (hs : S w) (k : wpAnyH P md ops Q S fuel (listed.setIfInBounds i true) (a.put oi.dst v) w)
  (h1 : Region.noSelect ops = true := by kernel_rfl) (h2 : Region.free md ops listed i = true := by kernel_rfl) (h3 : (Region.ready md ops listed).contains i = true := by kernel_rfl)
  (h4 : ∀ (c : List PanicEntry) (a : Act) (w : World), Q (.panic c) (a.put oi.dst v) w → Q (.panic c) a w := by exact fun _ _ _ h => h) : wpAnyH P md ops Q S (fuel + 1) listed a w :=
 wpAnyH_take (i := i) (v := v) ho h1 h2 h3 h4 y hs k
theorem dne {P : Program} {ops : Array Oper} {Q : Exit → Act → World → Prop} {md : Region.Mode} {S : World → Prop} {listed : Array Bool} {a : Act} {w : World} {fuel : Nat} (k : Q .normal a w) (hr : Region.ready md ops listed = [] := by kernel_rfl) : wpAnyH P md ops Q S fuel listed a w :=
 wpAnyH_done hr k fuel
section
def Row1 (w : World) (v : Value) (vs : List Value) : Prop :=
 ∃ a cap, v = .slice a vs.length cap ∧ vs.length ≤ cap ∧ cap ≤ maxLen ∧ (a = none → cap = 0) ∧ (vs ≠ [] → ∃ b off, a = some ⟨b, off, none⟩ ∧ b < w.heap.size ∧ ∀ i, i < vs.length → w.cell? ⟨b, off + i, none⟩ = vs[i]?)
section
variable {P : Program} {w w' : World} {v : Value} {vs : List Value}
theorem Row1.nil (w : World) : Row1 w (.slice none 0 0) [] := ⟨none, 0, rfl, q102 _, q149 _, fun _ => rfl, fun h => absurd rfl h⟩
theorem Row1.same (h : Row1 w v vs) (hs : w.heap.size ≤ w'.heap.size) (hc : ∀ p : Addr, v.ownBlock = some p.block → p.block < w.heap.size → w'.cell? p = w.cell? p) : Row1 w' v vs := by
 obtain ⟨a, cap, rfl, h1, h2, h3, h4⟩ := h
 refine ⟨a, cap, rfl, h1, h2, h3, fun hne => ?_⟩
 obtain ⟨b, off, rfl, hb, hcell⟩ := h4 hne
 exact ⟨b, off, rfl, q114 hb hs, fun i hi => (hc ⟨b, off + i, none⟩ rfl hb).trans (hcell i hi)⟩
theorem Row1.below (h : Row1 w v vs) (hb : Below w.heap.size w w') : Row1 w' v vs := h.same hb.size fun _ _ hp => hb.cell hp
theorem Row1.drew (h : Row1 w v vs) : Row1 w.drew v vs := h
theorem Row1.alloc (h : Row1 w v vs) (o : Obj) : Row1 (w.alloc o) v vs := h.below ((Below.refl _ _).alloc (q102 _) o)
theorem Row1.grown {row : Option Nat} (h : Row1 w v vs) (hg : w.grownBy w' row) (hne : ∀ k, row = some k → v.ownBlock ≠ some k) : Row1 w' v vs :=
 h.same hg.size fun p hp hlt => hg.cell_far p hlt fun e => hne p.block e.symm hp
theorem Row1.store (h : Row1 w v vs) {a : Addr} (ha : v.ownBlock ≠ some a.block) (u : Value) : Row1 (w.setCell a u) v vs := by
 refine h.same (by simp) fun p hp _ => ?_
 refine World.cell?_of_block (w := w) ?_
 exact Below.heap_setCell w a u p.block (fun e => ha (by rw [hp, e]))
theorem below_drewN {B : Nat} {a : World} (h : Below B a w) (n : Nat) : Below B a (w.drewN n) := h.trans ⟨rfl, rfl, rfl, q102 _, fun _ _ => rfl⟩
theorem Row1.of_own {base : Nat} {e : TypeId} {n : Nat} (h : w.ownsRow base e 1 v n vs) : Row1 w v vs := by
 have hl : vs.length = n := by have := h.1; omega
 rcases h.2 with ⟨rfl, h0⟩ | ⟨g, cap, cur, rfl, hb, hg, h1, h2, _, _⟩
 ·have : vs = [] := q179 (by omega)
  subst this
  exact Row1.nil w
 ·refine ⟨some ⟨g, 0, none⟩, cap, by rw [hl], by omega, h2, (fun e => by cases e), fun _ => ⟨g, 0, rfl, (h.lt g rfl).2, fun i hi => ?_⟩⟩
  rw [q125]
  exact h.cellAt i (by omega)
theorem Row1.own_ne {base : Nat} {e : TypeId} {size n : Nat} {xs : List Value} {x : Value} (h : w.ownsRow base e size x n xs) {k : Nat} (hk : k < base) : x.ownBlock ≠ some k := by
 intro e
 have := (h.lt k e).1
 omega
theorem run_append_row (t ty e : TypeId) (i : TypeInfo) (z : Value) (bytes : Nat) (ht : P.underlying t = some (.slice e)) (hi : P.info? e = some i) (hz : i.zero = some z)
  (hsize : i.size = 1) (hby : i.bytes = bytes) (hzs : z.cells.size = 1) (base : Nat) (x : Value) (n : Nat) (xs : List Value) (hown : w.ownsRow base e 1 x n xs)
  (hv : Row1 w v vs) (h1 : ∀ u ∈ vs, u.oneCell' = true) (h63 : n + vs.length ≤ maxLen) (hbytes : (n + vs.length) * bytes ≤ 140737488355328) (hbase : base ≤ w.heap.size) :
  ∃ x' w', (Builtin.append_ #[t, t] ty #[x, v]).run P w = .ok x' w' ∧ w'.ownsRow base e 1 x' (n + vs.length) (xs ++ vs) ∧ w.grownBy w' x.ownBlock := by
 obtain ⟨a, cap, rfl, hc1, hc2, hc3, hc4⟩ := hv
 cases a with
 | none =>
  have hcap := hc3 rfl
  have : vs = [] := q179 (by omega)
  subst this
  subst hcap
  refine ⟨x, w, run_append_owned_none w base t ty e i 1 ht hi x n xs hown, ?_, World.grownBy.refl _ _⟩
  simpa using hown
 | some ad =>
  have hnews : ∀ j u, vs[j]? = some u → w.cell? (ad.add j) = some u := by
   intro j u hu
   have hne : vs ≠ [] := by intro e; subst e; simp at hu
   obtain ⟨b, off, he, hb, hcell⟩ := hc4 hne
   cases he
   have hj : j < vs.length := by
    rcases q116 j vs.length with h | h
    ·exact h
    ·rw [List.getElem?_eq_none h] at hu; cases hu
   rw [WideShapes.add_plain, hcell j hj, hu]
  obtain ⟨x', w', hr, h2, h3, _⟩ := run_append_own (P := P) w base t ty e i z 1 bytes ht hi hz hsize hby hzs (by omega) x n xs hown ad vs.length cap vs (by omega) hnews h1 h63 hbytes hbase
  exact ⟨x', w', hr, h2, h3⟩
theorem zfb {o : Oper} {a : Act} {K : Act → World → Prop} {Q : Exit → Act → World → Prop} (s y : Operand) (t : TypeId)
  (ho : o.op = .call { callee := .builtin .append, args := #[s, y], argTypes := #[t, t] })
  (base : Nat) (e : TypeId) (i : TypeInfo) (z : Value) (bytes : Nat) (ht : P.underlying t = some (.slice e)) (hi : P.info? e = some i) (hz : i.zero = some z)
  (hsize : i.size = 1) (hby : i.bytes = bytes) (hzs : z.cells.size = 1)
  (x : Value) (n : Nat) (xs : List Value) (hs : a.eval s = x) (hown : w.ownsRow base e 1 x n xs)
  (hx : a.eval y = v) (hv : Row1 w v vs) (h1 : ∀ u ∈ vs, u.oneCell' = true)
  (h63 : n + vs.length ≤ maxLen) (hbytes : (n + vs.length) * bytes ≤ 140737488355328) (hbase : base ≤ w.heap.size)
  (h : ∀ x' w', w'.ownsRow base e 1 x' (n + vs.length) (xs ++ vs) → w.grownBy w' x.ownBlock → K (a.put o.dst x') w') : o.wp P a w K Q := by
 obtain ⟨x', w', hr, h2, h3⟩ := run_append_row (P := P) (w := w) t o.type e i z bytes ht hi hz hsize hby hzs base x n xs hown hv h1 h63 hbytes hbase
 unfold Oper.wp execOp
 simp only [ho, resolve, invoke, builtin, Sem.run_bind, Sem.run_pure, Result.andThen_ok, List.map_toArray, q153, List.map_nil, hs, hx, hr]
 exact h x' w' h2 h3
theorem zam {ops : Array Oper} {rest : List Oper} {o : Oper} {a : Act} {Q : Exit → Act → World → Prop} (hgd : o.guard = none) (s y : Operand) (t : TypeId)
  (ho : o.op = .call { callee := .builtin .append, args := #[s, y], argTypes := #[t, t] })
  (base : Nat) (e : TypeId) (i : TypeInfo) (z : Value) (bytes : Nat) (ht : P.underlying t = some (.slice e)) (hi : P.info? e = some i) (hz : i.zero = some z)
  (hsize : i.size = 1) (hby : i.bytes = bytes) (hzs : z.cells.size = 1)
  (x : Value) (n : Nat) (xs : List Value) (hs : a.eval s = x) (hown : w.ownsRow base e 1 x n xs)
  (hx : a.eval y = v) (hv : Row1 w v vs) (h1 : ∀ u ∈ vs, u.oneCell' = true)
  (h63 : n + vs.length ≤ maxLen) (hbytes : (n + vs.length) * bytes ≤ 140737488355328) (hbase : base ≤ w.heap.size)
  (h : ∀ x' w', w'.ownsRow base e 1 x' (n + vs.length) (xs ++ vs) → w.grownBy w' x.ownBlock → wpList P ops Q rest (a.put o.dst x') w') : wpList P ops Q (o :: rest) a w :=
 wpList_plain hgd fun _ hK => zfb s y t ho base e i z bytes ht hi hz hsize hby hzs x n xs hs hown hx hv h1 h63 hbytes hbase fun x' w' h2 h3 => hK _ _ (h x' w' h2 h3)
theorem Row1.made (w : World) (c : Array Value) (e : TypeId) (n m : Nat) (l : List Value) (hn : w.heap.size = n) (hc : c.toList = l) (hl : l.length = m) (hm : m ≤ maxLen) : Row1 (w.alloc (.cells c e)) (.slice (some ⟨n, 0, none⟩) m m) l := by
 subst hn; subst hl; subst hc
 refine ⟨_, _, rfl, q102 _, hm, (fun e => by cases e), fun _ => ⟨w.heap.size, 0, rfl, by simp, fun i hi => ?_⟩⟩
 rw [q125, World.cell?_alloc_at _ _ _ _ rfl]
 simp
theorem own_below {base : Nat} {e : TypeId} {size n : Nat} {xs : List Value} {x : Value} (h : w.ownsRow base e size x n xs) (hb : Below w.heap.size w w') : w'.ownsRow base e size x n xs := by
 obtain ⟨h1, h2⟩ := h
 refine ⟨h1, ?_⟩
 rcases h2 with h2 | ⟨g, cap, cur, r1, r2, r3, r4⟩
 ·exact Or.inl h2
 ·refine Or.inr ⟨g, cap, cur, r1, r2, ?_, r4⟩
  have hg : g < w.heap.size := by
   rcases q116 g w.heap.size with h | h
   ·exact h
   ·rw [Array.getElem?_eq_none h] at r3; cases r3
  rw [hb.block g hg, r3]
theorem own_mono {base base' : Nat} {e : TypeId} {size n : Nat} {xs : List Value} {x : Value} (h : w.ownsRow base e size x n xs) (hb : base' ≤ base) : w.ownsRow base' e size x n xs := by
 obtain ⟨h1, h2⟩ := h
 refine ⟨h1, ?_⟩
 rcases h2 with h2 | ⟨g, cap, cur, r1, r2, r3⟩
 ·exact Or.inl h2
 ·exact Or.inr ⟨g, cap, cur, r1, q121 hb r2, r3⟩
def Blk (w : World) (c : Nat) (cs : List Value) (t : TypeId) : Prop := w.heap[c]? = some (.cells cs.toArray t (0, 0))
theorem Blk.cell {c : Nat} {cs : List Value} {t : TypeId} (h : Blk w c cs t) (i : Nat) : w.cell? ⟨c, i, none⟩ = cs[i]? := by
 unfold Blk at h
 simp [World.cell?, h]
theorem Blk.free {c : Nat} {cs : List Value} {t : TypeId} (h : Blk w c cs t) (i : Nat) : w.frozen? ⟨c, i, none⟩ = false := by
 unfold Blk at h
 simp [World.frozen?, h]
theorem Blk.lt {c : Nat} {cs : List Value} {t : TypeId} (h : Blk w c cs t) : c < w.heap.size := lt_of_block h
theorem Blk.set {c : Nat} {cs : List Value} {t : TypeId} (h : Blk w c cs t) (i : Nat) (u : Value) : Blk (w.setCell ⟨c, i, none⟩ u) c (cs.set i u) t := by
 have := heap_setCell_same w c i cs.toArray t u h
 unfold Blk
 rw [this]
 simp
theorem Blk.same {c : Nat} {cs : List Value} {t : TypeId} (h : Blk w c cs t) (he : w'.heap[c]? = w.heap[c]?) : Blk w' c cs t := he.trans h
theorem Blk.drewN {c : Nat} {cs : List Value} {t : TypeId} (h : Blk w c cs t) (n : Nat) : Blk (w.drewN n) c cs t := h
theorem Blk.grown {c : Nat} {cs : List Value} {t : TypeId} {row : Option Nat} (h : Blk w c cs t) (hg : w.grownBy w' row) (hne : row ≠ some c) : Blk w' c cs t :=
 h.same (hg.block c h.lt (fun e => hne e.symm))
theorem Blk.made (w : World) (cs : List Value) (t : TypeId) : Blk (w.alloc (.cells cs.toArray t)) w.heap.size cs t := heap_alloc_new w _
theorem grownBy_trans {a b d : World} {row : Option Nat} (h : a.grownBy b row) (g : b.grownBy d row) : a.grownBy d row :=
 ⟨g.os.trans h.os, g.tape.trans h.tape, g.output.trans h.output, q121 h.size g.size, fun k hk hr => (g.block k (q114 hk h.size) hr).trans (h.block k hk hr)⟩
theorem grownBy_of_none {a b : World} {row : Option Nat} (h : a.grownBy b none) : a.grownBy b row :=
 ⟨h.os, h.tape, h.output, h.size, fun k hk _ => h.block k hk (by simp)⟩
theorem zbs {a b : World} {c : Nat} (h : a.grownBy b (some c)) (i : Nat) (u : Value) : a.grownBy (b.setCell ⟨c, i, none⟩ u) (some c) :=
 ⟨h.os, h.tape, h.output, by simpa [World.setCell] using h.size, fun k hk hr => (heap_setCell_other b ⟨c, i, none⟩ k u (fun e => hr (by rw [e]))).trans (h.block k hk hr)⟩
theorem grownBy_drewN {a b : World} {row : Option Nat} (h : a.grownBy b row) (n : Nat) : a.grownBy (b.drewN n) row := ⟨h.os, h.tape, h.output, h.size, h.block⟩
theorem zce (a : World) (row : Option Nat) : a.grownBy a row := World.grownBy.refl a row
theorem grown_of_below {a b : World} (h : Below a.heap.size a b) (row : Option Nat) : a.grownBy b row :=
 ⟨h.os, h.tape, h.output, h.size, fun k hk _ => h.block k hk⟩
theorem Row1.sliced {ad : Addr} {len cap : Nat} (h : Row1 w (.slice (some ad) len cap) vs) (i n : Nat) (hj : i + n ≤ vs.length) : Row1 w (.slice (some (ad.add i)) n (cap - i)) ((vs.drop i).take n) := by
 obtain ⟨a, cap', e, h1, h2, h3, h4⟩ := h
 cases e
 have hl : ((vs.drop i).take n).length = n := by simp; omega
 refine ⟨some (ad.add i), cap - i, by rw [hl], by rw [hl]; omega, by omega, (fun e => by cases e), fun hne => ?_⟩
 have hv : vs ≠ [] := by intro e; subst e; simp at hne
 obtain ⟨b', off', e, hb, hc⟩ := h4 hv
 cases e
 refine ⟨b', off' + i, by rw [WideShapes.add_plain], hb, fun k hk => ?_⟩
 rw [hl] at hk
 rw [Nat.add_assoc, hc (i + k) (by omega), List.getElem?_take, if_pos hk, List.getElem?_drop]
theorem Row1.empty (w : World) (ad : Addr) (cap : Nat) (hm : cap ≤ maxLen) : Row1 w (.slice (some ad) 0 cap) [] :=
 ⟨some ad, cap, rfl, q149 _, hm, (fun e => by cases e), fun h => absurd rfl h⟩
def bval (b : UInt8) : Value := .int .u8 (b.toNat : Int)
theorem zaf (l : List UInt8) : ∀ u ∈ l.map bval, u.oneCell' = true := by
 intro u hu
 obtain ⟨c, _, rfl⟩ := List.mem_map.1 hu
 rfl
theorem foldl_bytes : ∀ (l : List UInt8) (s : ByteArray), ((l.map fun b => (b.toNat : Int)).foldl (fun r n => r.push (UInt8.ofNat n.toNat)) s).data = s.data ++ l.toArray
 | [], s => by simp
 | b :: l, s => by
  simp only [q153, List.foldl_cons]
  rw [foldl_bytes l]
  simp [ByteArray.push]
def RowB (w : World) (v : Value) (ls : List (List UInt8)) : Prop :=
 ∃ vals : List Value, Row1 w v vals ∧ vals.length = ls.length ∧ ∀ (i : Nat) (x : Value) (l : List UInt8), vals[i]? = some x → ls[i]? = some l → Row1 w x (l.map bval)
theorem RowB.below {ls : List (List UInt8)} (h : RowB w v ls) (hb : Below w.heap.size w w') : RowB w' v ls := by
 obtain ⟨vals, h1, h2, h3⟩ := h
 exact ⟨vals, h1.below hb, h2, fun i x l hx hl => (h3 i x l hx hl).below hb⟩
theorem run_string_row (src dst e : TypeId) (hs : P.underlying src = some (.slice e)) (he : P.underlying e = some (.int .u8)) (hd : P.underlying dst = some .string) {l : List UInt8} (h : Row1 w v (l.map bval)) :
  (convert src dst v).run P w = .ok (.string ⟨l.toArray⟩) w := by
 obtain ⟨a, cap, rfl, hc1, hc2, hc3, hc4⟩ := h
 rw [run_convert_bytes_string w src dst e a _ cap hs he hd]
 cases a with
 | none =>
  have hcap := hc3 rfl
  have : l = [] := by
   have : (l.map bval).length = 0 := by omega
   exact q179 (by simpa using this)
  subst this
  rfl
 | some ad =>
  have hload : (loadCells ad (l.map bval).length).run P w = .ok ((l.map fun b => (b.toNat : Int)).map (Value.int .u8)).toArray w := by
   rw [show (l.map fun b => (b.toNat : Int)).map (Value.int .u8) = l.map bval from by simp [bval, Function.comp_def]]
   have := run_loadCells_list (P := P) (w := w) ad (l.map bval) (fun j u hu => by
    have hne : l.map bval ≠ [] := by intro e; rw [e] at hu; simp at hu
    obtain ⟨b, off, he, hb, hcell⟩ := hc4 hne
    cases he
    have hj : j < (l.map bval).length := by
     rcases q116 j (l.map bval).length with h | h
     ·exact h
     ·rw [List.getElem?_eq_none h] at hu; cases hu
    rw [WideShapes.add_plain, hcell j hj, hu])
   exact this
  rw [run_bytesToString w ad _ cap _ hload]
  congr 2
  have := foldl_bytes l ByteArray.empty
  generalize (List.foldl (fun r n => r.push (UInt8.ofNat n.toNat)) ByteArray.empty (l.map fun b => (b.toNat : Int))) = r at this ⊢
  cases r
  simpa using this
end
end
section
open Go.ChangeShapes Go.WideShapes Go.ChangeAt Go.RowKit
theorem trodAll_len {H : Type} {enc : TypeId × Value → H} {P : Program} {w : World} {base : Nat} {sp : Nat → Bool} {held : Bool} :
  ∀ {ts : List TypeId} {vs : List Value} {ds : List (DataW H)} {ps : List MemPlace}, DataW.TrodAll enc P w base sp held ts vs ds ps → ds.length = ts.length
 | [], _, _, _, h => by
  obtain ⟨rfl, rfl, rfl⟩ := trodAll_nil h
  rfl
 | _ :: _, _, _, _, h => by
  obtain ⟨v, vs1, d, ds1, a, b, rfl, rfl, rfl, g1, g2⟩ := trodAll_cons h
  simp [trodAll_len g2]
theorem trodAll_stays {H : Type} {enc : TypeId × Value → H} {P : Program} (hl : laidOutB P = true) {W W' : World} {base : Nat} {sp' : Nat → Bool} :
  ∀ {ts : List TypeId} {vs : List Value} {ds : List (DataW H)} {ps : List MemPlace}, (ts.all fun t => P.readableRec t && decide (t < P.types.size)) = true →
  DataW.TrodAll enc P W base (fun _ => true) true ts vs ds ps → (∀ p ∈ ps, W.sameAt W' p) → (∀ p ∈ ps, sp' p.block = true) → DataW.TrodAll enc P W' base sp' true ts vs ds ps
 | [], _, _, _, _, h, _, _ => by
  obtain ⟨rfl, rfl, rfl⟩ := trodAll_nil h
  exact trodAll_mk0
 | t :: ts, _, _, _, hr, h, h1, h2 => by
  obtain ⟨v, vs1, d, ds1, a, b, rfl, rfl, rfl, g1, g2⟩ := trodAll_cons h
  rw [List.all_cons, Bool.and_eq_true, Bool.and_eq_true] at hr
  obtain ⟨⟨r1, r2⟩, r3⟩ := hr
  exact ⟨a, b, WideElems.Trod_stays hl r1 (of_decide_eq_true r2) g1 (fun p hp => h1 p (List.mem_append_left _ hp)) (fun p hp => h2 p (List.mem_append_left _ hp)),
   trodAll_stays hl r3 g2 (fun p hp => h1 p (List.mem_append_right _ hp)) (fun p hp => h2 p (List.mem_append_right _ hp)), rfl⟩
section
variable {H : Type} {enc : TypeId × Value → H} {P : Program} {W : World} {sp : Nat → Bool}
theorem cell_int {e : TypeId} {k : IntKind} (he : P.underlying e = some (.int k)) {n : Nat} {x : Value} {y : DataW H × List MemPlace}
  (h : DataW.trod enc P W 0 sp true n e [x] = some y) : ∃ b, x = .int k b ∧ (Lit.int k b).wf = true := by
 cases n with
 | zero => simp [DataW.trod] at h
 | succ n =>
  unfold DataW.trod at h
  rw [he] at h
  cases x <;> simp at h
  rename_i k' b
  obtain ⟨⟨rfl, h2⟩, _⟩ := h
  exact ⟨b, rfl, h2⟩
theorem list_of_all {α : Type} {f : α → Value} {p : α → Prop} : ∀ {vs : List Value}, (∀ x ∈ vs, ∃ a, x = f a ∧ p a) → ∃ l : List α, vs = l.map f ∧ ∀ a ∈ l, p a
 | [], _ => ⟨[], rfl, fun a h => by cases h⟩
 | v :: vs, h => by
  obtain ⟨a, rfl, ha⟩ := h v (List.mem_cons_self ..)
  obtain ⟨l, rfl, hl⟩ := list_of_all (fun x hx => h x (List.mem_cons_of_mem _ hx))
  exact ⟨a :: l, rfl, fun b hb => by
   rcases List.mem_cons.1 hb with rfl | hb
   ·exact ha
   ·exact hl b hb⟩
theorem open_array {base0 : Nat} {r : Reach} {t e : TypeId} {len : Nat} {v : Value} {d : DataW H} {ps : List MemPlace} (ht : P.underlying t = some (.array len e)) (hc : P.cellsOf e = 1) (hct : P.cellsOf t = len)
  (hval : Value.okWide P W r base0 t v) (hd : DataW.Trod enc P W 0 (fun _ => true) true t v d ps) :
  ∃ vs : List Value, v = .agg vs.toArray ∧ vs.length = len ∧ ∀ x ∈ vs, ∃ n y, DataW.trod enc P W 0 (fun _ => true) true n e [x] = some y := by
 simp only [Value.okWide, ht] at hval
 obtain ⟨cs, rfl, hsz, _⟩ := hval
 rw [hct] at hsz
 obtain ⟨fuel, hf⟩ := hd
 obtain ⟨xs, m, _, _, hl, hxl, hx⟩ := DataW.trod_array ht hf
 obtain ⟨l⟩ := cs
 refine ⟨l, rfl, by simpa using hsz, fun x hxm => ?_⟩
 obtain ⟨i, hi, rfl⟩ := List.getElem_of_mem hxm
 have hlen : l.length = len := by simpa using hsz
 have hi' : i < len := by omega
 have := hx i hi'
 rw [hc, Nat.mul_one] at this
 refine ⟨m, xs[i]'(by omega), ?_⟩
 rw [List.getElem?_eq_getElem (by omega)] at this
 rw [← this]
 congr 1
 show [l[i]] = (l.drop i).take 1
 rw [q164 hi]
 rfl
theorem open_array_ints {base0 : Nat} {r : Reach} {t e : TypeId} {len : Nat} {k : IntKind} {v : Value} {d : DataW H} {ps : List MemPlace} (ht : P.underlying t = some (.array len e)) (he : P.underlying e = some (.int k)) (hc : P.cellsOf e = 1) (hct : P.cellsOf t = len)
  (hval : Value.okWide P W r base0 t v) (hd : DataW.Trod enc P W 0 (fun _ => true) true t v d ps) :
  ∃ zs : List Int, v = .agg (zs.map (Value.int k)).toArray ∧ zs.length = len ∧ ∀ n ∈ zs, (Lit.int k n).wf = true := by
 obtain ⟨vs, rfl, hl, h2⟩ := open_array ht hc hct hval hd
 obtain ⟨l, rfl, hw⟩ := list_of_all (f := Value.int k) (p := fun n => (Lit.int k n).wf = true) (fun x hx => by
  obtain ⟨n, y, h⟩ := h2 x hx
  exact cell_int he h)
 exact ⟨l, rfl, by simpa using hl, hw⟩
end
theorem law_own : ownKnob Tryz.prog.godebug = none := by kernel_rfl
theorem law_laid : laidOutB Tryz.prog = true := by kernel_rfl
end
section
section
variable {P : Program} {w w' : World}
def laid : List Value → Nat → List Value → List Value
 | cs, _, [] => cs
 | cs, o, v :: r => laid (cs.set o v) (o + 1) r
theorem laid_get : ∀ (vs cs : List Value) (o : Nat), o + vs.length ≤ cs.length → ∀ i, (laid cs o vs)[i]? = if o ≤ i ∧ i < o + vs.length then vs[i - o]? else cs[i]?
 | [], cs, o, h, i => by simp [laid]; omega
 | v :: r, cs, o, h, i => by
  rw [q126] at h
  rw [laid, laid_get r _ _ (by simp; omega)]
  by_cases h1 : i = o
  ·subst h1
   rw [if_neg (by omega), if_pos (by simp), List.getElem?_set_self (by omega)]
   simp
  ·by_cases h2 : o + 1 ≤ i ∧ i < o + 1 + r.length
   ·rw [if_pos h2, if_pos (by rw [q126]; omega), show i - o = (i - (o + 1)) + 1 from by omega]
    simp
   ·rw [if_neg h2, if_neg (by rw [q126]; omega), List.getElem?_set_ne (by omega)]
theorem laid_all (cs vs : List Value) (h : vs.length = cs.length) : laid cs 0 vs = vs := by
 apply List.ext_getElem?
 intro i
 rw [laid_get _ _ _ (by omega)]
 by_cases hi : i < vs.length
 ·rw [if_pos (by omega)]
  simp
 ·rw [if_neg (by omega), List.getElem?_eq_none (by omega), List.getElem?_eq_none (by omega)]
theorem Blk.setCells {c : Nat} {t : TypeId} : ∀ (vs : List Value) (cs : List Value) (o : Nat) (w : World), Blk w c cs t → Blk (w.setCells c o vs) c (laid cs o vs) t
 | [], _, _, _, h => h
 | v :: r, cs, o, w, h => Blk.setCells r (cs.set o v) (o + 1) _ (h.set o v)
theorem zcv {c : Nat} : ∀ (vs : List Value) (o : Nat) (a b : World), a.grownBy b (some c) → a.grownBy (b.setCells c o vs) (some c)
 | [], _, _, _, h => h
 | v :: r, o, a, b, h => zcv r (o + 1) a _ (zbs h o v)
theorem Blk.there {c : Nat} {cs : List Value} {t : TypeId} (h : Blk w c cs t) (n : Nat) (hn : n ≤ cs.length) : w.there c 0 n := fun j hj => by
 rw [q125]
 refine ⟨?_, h.free j⟩
 rw [h.cell j, List.getElem?_eq_getElem (by omega)]
 rfl
theorem Blk.range {c : Nat} {cs : List Value} {t : TypeId} (h : Blk w c cs t) : w.rangeAt c 0 cs := fun j v hv => by
 rw [q125, h.cell j, hv]
theorem zbh {ops : Array Oper} {rest : List Oper} {o : Oper} {a : Act} {Q : Exit → Act → World → Prop} (hgd : o.guard = none) (ty : TypeId) (x : Operand) (ho : o.op = .load ty x)
  (c : Nat) (hx : a.eval x = .pointer (some ⟨c, 0, none⟩)) (t : TypeId) (cs : List Value) (n : Nat) (e : TypeId) (hb : Blk w c cs t)
  (hu : P.underlying ty = some (.array n e)) (hi : (P.info? ty).map (·.size) = some cs.length)
  (h : wpList P ops Q rest (a.put o.dst (.agg cs.toArray)) w) : wpList P ops Q (o :: rest) a w :=
 wpList_load_mid hgd ty x ho c 0 hx cs _ hb.range hu rfl hi h
theorem zbe {ops : Array Oper} {rest : List Oper} {o : Oper} {a : Act} {Q : Exit → Act → World → Prop} (hgd : o.guard = none) (ty : TypeId) (x y : Operand) (ho : o.op = .store ty x y)
  (c : Nat) (vs : List Value) (hx : a.eval x = .pointer (some ⟨c, 0, none⟩)) (hy : a.eval y = .agg vs.toArray)
  (t : TypeId) (cs : List Value) (hb : Blk w c cs t) (hl : vs.length = cs.length) (hi : (P.info? ty).map (·.size) = some vs.length) (h1 : ∀ v ∈ vs, v.oneCell' = true)
  (h : ∀ w', Blk w' c vs t → w.grownBy w' (some c) → wpList P ops Q rest (a.put o.dst undef) w') : wpList P ops Q (o :: rest) a w :=
 wpList_store_mid hgd ty x y ho c 0 vs.toArray hx hy (by simpa using hb.there vs.length (by omega)) (by simpa using hi) (all_oneCell_toArray h1)
  (h _ (by simpa [laid_all cs vs hl] using Blk.setCells vs cs 0 w hb) (zcv _ 0 w w (zce w _)))
theorem zak {o : Oper} {a : Act} {K : Act → World → Prop} {Q : Exit → Act → World → Prop} (ty : TypeId) (x y : Operand) (ho : o.op = .store ty x y)
  (c : Nat) (vs : List Value) (hx : a.eval x = .pointer (some ⟨c, 0, none⟩)) (hy : a.eval y = .agg vs.toArray)
  (t : TypeId) (cs : List Value) (hb : Blk w c cs t) (hl : vs.length = cs.length) (hi : (P.info? ty).map (·.size) = some vs.length) (h1 : ∀ v ∈ vs, v.oneCell' = true)
  (h : ∀ w', Blk w' c vs t → w.grownBy w' (some c) → K (a.put o.dst undef) w') : o.wp P a w K Q :=
 wp_store_mid ty x y ho c 0 vs.toArray hx hy (by simpa using hb.there vs.length (by omega)) (by simpa using hi) (all_oneCell_toArray h1)
  (h _ (by simpa [laid_all cs vs hl] using Blk.setCells vs cs 0 w hb) (zcv _ 0 w w (zce w _)))
theorem zbc {fn : Func} {p : Tmp} {ty : TypeId} (h : fn.results = #[.cell p ty]) (tmps : Array Value) (c : Nat) (t : TypeId) (cs : List Value) (n : Nat) (e : TypeId)
  (hp : tmps.getD p undef = .pointer (some ⟨c, 0, none⟩)) (hb : Blk w c cs t) (hu : P.underlying ty = some (.array n e)) (hi : (P.info? ty).map (·.size) = some cs.length) :
  (results fn tmps).run P w = .ok (.agg cs.toArray) w :=
 results_cell_row h tmps w c t cs.toArray (0, 0) _ hp hb hu rfl (by simpa using hi)
theorem Blk.far {c : Nat} {cs : List Value} {t : TypeId} {a : Addr} (h : Blk w c cs t) (ha : a.block ≠ c) (v : Value) : Blk (w.setCell a v) c cs t :=
 h.same (heap_setCell_other w a c v (fun e => ha e.symm))
theorem Blk.alloc {c : Nat} {cs : List Value} {t : TypeId} (h : Blk w c cs t) (o : Obj) : Blk (w.alloc o) c cs t := h.same (heap_alloc_old w o h.lt)
theorem boxes2 (w : World) (a b : List Value) (s t : TypeId) : Blk ((w.alloc (.cells a.toArray s)).alloc (.cells b.toArray t)) w.heap.size a s ∧ Blk ((w.alloc (.cells a.toArray s)).alloc (.cells b.toArray t)) (w.heap.size + 1) b t ∧
  Below w.heap.size w ((w.alloc (.cells a.toArray s)).alloc (.cells b.toArray t)) := by
 refine ⟨(Blk.made w a s).alloc _, ?_, ((Below.refl _ _).alloc (q102 _) _).alloc (by simp) _⟩
 have := Blk.made (w.alloc (.cells a.toArray s)) b t
 simpa using this
theorem boxes3 (w : World) (a b c : List Value) (s t u : TypeId) : Blk (((w.alloc (.cells a.toArray s)).alloc (.cells b.toArray t)).alloc (.cells c.toArray u)) w.heap.size a s ∧ Blk (((w.alloc (.cells a.toArray s)).alloc (.cells b.toArray t)).alloc (.cells c.toArray u)) (w.heap.size + 1) b t ∧
  Blk (((w.alloc (.cells a.toArray s)).alloc (.cells b.toArray t)).alloc (.cells c.toArray u)) (w.heap.size + 1 + 1) c u ∧ Below w.heap.size w (((w.alloc (.cells a.toArray s)).alloc (.cells b.toArray t)).alloc (.cells c.toArray u)) := by
 obtain ⟨h1, h2, h3⟩ := boxes2 w a b s t
 refine ⟨h1.alloc _, h2.alloc _, ?_, h3.alloc (by simp; omega) _⟩
 have := Blk.made ((w.alloc (.cells a.toArray s)).alloc (.cells b.toArray t)) c u
 simpa using this
theorem boxes4 (w : World) (a b c d : List Value) (s t u v : TypeId) : Blk ((((w.alloc (.cells a.toArray s)).alloc (.cells b.toArray t)).alloc (.cells c.toArray u)).alloc (.cells d.toArray v)) w.heap.size a s ∧ Blk ((((w.alloc (.cells a.toArray s)).alloc (.cells b.toArray t)).alloc (.cells c.toArray u)).alloc (.cells d.toArray v)) (w.heap.size + 1) b t ∧
  Blk ((((w.alloc (.cells a.toArray s)).alloc (.cells b.toArray t)).alloc (.cells c.toArray u)).alloc (.cells d.toArray v)) (w.heap.size + 1 + 1) c u ∧ Blk ((((w.alloc (.cells a.toArray s)).alloc (.cells b.toArray t)).alloc (.cells c.toArray u)).alloc (.cells d.toArray v)) (w.heap.size + 1 + 1 + 1) d v ∧ Below w.heap.size w ((((w.alloc (.cells a.toArray s)).alloc (.cells b.toArray t)).alloc (.cells c.toArray u)).alloc (.cells d.toArray v)) := by
 obtain ⟨h1, h2, h3, h4⟩ := boxes3 w a b c s t u
 refine ⟨h1.alloc _, h2.alloc _, h3.alloc _, ?_, h4.alloc (by simp; omega) _⟩
 have := Blk.made (((w.alloc (.cells a.toArray s)).alloc (.cells b.toArray t)).alloc (.cells c.toArray u)) d v
 simpa using this
def ints (k : IntKind) (zs : List Int) : List Value := zs.map (.int k)
theorem zaj (k : IntKind) (zs : List Int) : ∀ v ∈ ints k zs, v.oneCell' = true := by
 intro u hu
 obtain ⟨z, _, rfl⟩ := List.mem_map.1 hu
 rfl
theorem zbq (k : IntKind) (zs : List Int) (i : Nat) (z : Int) : (ints k zs).set i (.int k z) = ints k (zs.set i z) := by
 unfold ints
 rw [q127]
theorem zan {k : IntKind} {zs : List Int} {i : Nat} (h : i < zs.length) : (ints k zs)[i]? = some (.int k (zs.getD i 0)) := by
 simp [ints, List.getD, h]
theorem zaa (k : IntKind) (zs : List Int) : (ints k zs).length = zs.length := by simp [ints]
end
end
section
open Go.ChangeShapes Go.WideShapes Go.ChangeAt Go.WideMaps Go.WideElems Go.RowKit
theorem laid_in {P : Program} {w : World} : ∀ {laid : List (String × DataW Unit)} {ps : List MemPlace} {n : String} {d : DataW Unit}, DataW.LaidVars P w laid ps → (n, d) ∈ laid →
  ∃ g t cs fuel p, P.globalNamed n = some g ∧ (P.globals[g]?).map (·.type) = some t ∧ w.var? P n = some cs ∧ DataW.trod (fun _ => ()) P w 0 (fun _ => true) false fuel t cs.toList = some (d, p)
 | [], _, _, _, _, hm => by cases hm
 | (n0, d0) :: r, ps, n, d, h, hm => by
  obtain ⟨g, t, cs, fuel, p, q, h1, h2, h3, h4, h5, _⟩ := h
  rcases List.mem_cons.1 hm with e | hm
  ·cases e
   exact ⟨g, t, cs, fuel, p, h1, h2, h3, h4⟩
  ·exact laid_in h5 hm
theorem zcm {P : Program} {W : World} {L : List (String × DataW Unit)} {n : String} {g len : Nat} {t e : TypeId} {k : IntKind} {zs : List Int} {d : DataW Unit}
  (hplain : (L.all fun x => x.2.handleName?.isNone) = true) (h : laidMetH P L W) (hm : (n, d) ∈ L) (hd : d = .agg (zs.map fun z => .lit (.int k z)))
  (hg : P.globalNamed n = some g) (ht : (P.globals[g]?).map (·.type) = some t) (hu : P.underlying t = some (.array len e)) (he : P.underlying e = some (.int k)) (hc : P.cellsOf e = 1) (hz : zs.length = len) : W.rangeAt g 0 (ints k zs) := by
 rw [MakeChecks.laidMetH_plain _ _ _ hplain] at h
 obtain ⟨ps, hl, _, _⟩ := h
 obtain ⟨g0, t0, cs0, f0, p0, hg0, ht0, hv0, hd0⟩ := laid_in hl hm
 obtain rfl := Option.some.inj (hg.symm.trans hg0)
 obtain rfl := Option.some.inj (ht.symm.trans ht0)
 obtain ⟨xs, m, rfl, hx1, hlen, hn, hel⟩ := DataW.trod_array hu hd0
 rw [hd] at hx1
 simp only [Prod.mk.injEq, DataW.agg.injEq] at hx1
 intro j v hj
 have hjl : j < len := by
  apply Classical.byContradiction
  intro hn'
  rw [List.getElem?_eq_none (by rw [zaa]; omega)] at hj
  cases hj
 have h0 := hel j hjl
 rw [hc, Nat.mul_one] at h0
 obtain ⟨x0, hx0⟩ : ∃ x0, xs[j]? = some x0 := ⟨xs[j], List.getElem?_eq_getElem (by omega)⟩
 rw [hx0] at h0
 obtain ⟨q, e1, e2, _⟩ := DataW.trod_int he h0
 have e3 : (zs.map fun z => (DataW.lit (.int k z) : DataW Unit))[j]? = some x0.1 := by rw [hx1.1, List.getElem?_map, hx0]; rfl
 rw [e2, List.getElem?_map] at e3
 have e4 : zs[j]? = some q := by
  cases hr : zs[j]? with
  | none => rw [hr] at e3; cases e3
  | some z => rw [hr] at e3; simpa using e3
 have e5 : v = .int k q := by
  unfold ints at hj
  rw [List.getElem?_map, e4] at hj
  simpa using hj.symm
 have e6 : cs0.toList[j]? = some (.int k q) := by
  have := congrArg (fun l : List Value => l[0]?) e1
  simpa [List.getElem?_take, List.getElem?_drop] using this
 have := World.var?_cell hg0 hv0 j
 rw [q125, this, e5]
 simpa using e6
def LawWalkG (G : World → Prop) {H : Type} (enc : TypeId × Value → H) (P : Program) (f : FuncId) (ts : List TypeId) : Prop :=
 ∀ (W : World) (base : Nat) (args : Array Value) (ds : List (DataW H)) (ps : List MemPlace),
  (∀ (j : Nat) (t : TypeId) (v : Value), ts[j]? = some t → args[j]? = some v → Value.okWide P W .any base t v) →
  DataW.TrodAll enc P W 0 (fun _ => true) true ts args.toList ds ps → (∀ x ∈ ps, x.block < W.heap.size) → W.noneFrozen ps → G W →
  Calls P f args W fun e w' => e = .returned (.bool true) ∧ Below W.heap.size W w'
theorem law_lift_tied {G : World → Prop} {H : Type} {enc : TypeId × Value → H} {C : Checked} {os : Os} {f : FuncId} {fn : Func} {s : ChangeSpec} {tb : TypeId} (L : List (String × DataW Unit))
  (own : ownKnob C.prog.godebug = none) (laid : laidOutB C.prog = true) (started : os.Started)
  (hinit : C.prog.inits.idxOf? f = none) (hf : C.prog.funcs[f]? = some fn) (hvars : s.vars = [])
  (hread : (fn.params.toList.all fun t => C.prog.readableRec t && decide (t < C.prog.types.size)) = true)
  (hres : fn.resultTypes = #[tb]) (hb : C.prog.underlying tb = some .bool)
  (hs : ∀ ds : List (DataW H), ds.length = fn.params.toList.length → (s.fn H ds).results = [.lit (.bool true)] ∧ (s.fn H ds).args = ds ∧ (s.fn H ds).vars = [])
  (hwit : ∃ (w : World) (tape : Tape) (i : Input), w.os = os ∧ (w.forCall tape i).Shaped C.prog ∧ i.vars = [] ∧ Input.okWide C.prog (w.forCall tape i) .any w.heap.size f i ∧
   ((s.pre enc C.prog fn [] false (w.forCall tape i).memory i.args ∧ laidMetH C.prog L (w.forCall tape i).memory) ∧ sizedMet enc C.prog fn (OpenSpec.ofChange s) false (w.forCall tape i).memory i.args) ∧ ({} : Assume).holds C.prog (lone (Frame.enter C.prog f i.args .normal) [] (w.forCall tape i)))
  (hglob : ∀ W, laidMetH C.prog L W → G W) (walk : LawWalkG G enc C.prog f fn.params.toList) :
  ReturnsInHanded {} C os f .any (fun w args => (s.pre enc C.prog fn [] false w args ∧ laidMetH C.prog L w) ∧ sizedMet enc C.prog fn (OpenSpec.ofChange s) false w args) (s.post enc C.prog fn false true false false) := by
 refine returnsInHanded_of_change_and (C := C) (X := fun w _ => laidMetH C.prog L w) (fun _ _ _ hh h => h.of_heap hh) own started hinit hf hwit ?_
 intro W base args ds gs before hval hW _ _ hL _
 have hW' := hW
 have hlt := hW.lt
 obtain ⟨p, q, hA, hV, rfl, hfz, hnd⟩ := hW
 rw [hvars] at hV
 obtain ⟨rfl, rfl⟩ := trodVars_none hV
 rw [q136] at hlt hfz
 have hlen := trodAll_len hA
 obtain ⟨e1, e2, e3⟩ := hs ds hlen
 refine (walk W base args ds p (fun j t v hj hv => hval j t v (by rw [← Array.getElem?_toList]; exact hj) hv) hA hlt hfz (hglob W hL)).mono ?_
 rintro e w' ⟨rfl, hbel⟩
 refine ⟨_, rfl, ds, [], p ++ [], [], p, [], hW', ?_, ?_, ?_, ?_, ?_⟩
 ·rw [q136, e1, hres]
  exact trodAll_mk1 (shut_bool hb _)
 ·rw [q136, e2]
  exact trodAll_stays laid hread hA (fun x hx => hbel.same (hlt x hx)) (fun x hx => by simpa using hlt x hx)
 ·rw [hvars, q136, e3]
  rfl
 ·exact hbel.frame _
 ·intro h
  cases h
end
section
open Go.ChangeShapes Go.WideShapes Go.ChangeAt Go.RowKit
section
variable {H : Type} {enc : TypeId × Value → H} {P : Program} {W : World}
theorem byte_of {b : Int} (h : (Lit.int .u8 b).wf = true) : ∃ n : UInt8, b = (n.toNat : Int) := by
 have hb : 0 ≤ b ∧ b ≤ 255 := by simpa [Lit.wf, IntKind.min, IntKind.max, IntKind.signed, IntKind.bits] using h
 refine ⟨UInt8.ofNat b.toNat, ?_⟩
 rw [UInt8.toNat_ofNat']
 omega
theorem bytes_of_ints : ∀ {zs : List Int}, (∀ n ∈ zs, (Lit.int .u8 n).wf = true) → ∃ l : List UInt8, zs.map (Value.int .u8) = l.map bval
 | [], _ => ⟨[], rfl⟩
 | z :: r, h => by
  obtain ⟨n, hn⟩ := byte_of (h z (List.mem_cons_self ..))
  obtain ⟨l, hl⟩ := bytes_of_ints (zs := r) (fun x hx => h x (List.mem_cons_of_mem _ hx))
  exact ⟨n :: l, by simp only [q153, hl, hn]; rfl⟩
theorem open_num {base0 : Nat} {r : Reach} {t e : TypeId} {v : Value} {d : DataW H} {ps : List MemPlace} (ht : P.underlying t = some (.array 32 e)) (he : P.underlying e = some (.int .u8)) (hc : P.cellsOf e = 1) (hct : P.cellsOf t = 32)
  (hval : Value.okWide P W r base0 t v) (hd : DataW.Trod enc P W 0 (fun _ => true) true t v d ps) : ∃ l : List UInt8, v = .agg (l.map bval).toArray ∧ l.length = 32 := by
 obtain ⟨zs, rfl, hl, hw⟩ := open_array_ints ht he hc hct hval hd
 obtain ⟨l, e⟩ := bytes_of_ints hw
 refine ⟨l, by rw [e], ?_⟩
 have := congrArg List.length e
 simpa [hl] using this.symm
end
end
section
def Ext (w w' : World) : Prop := Below w.heap.size w w'
theorem Ext.refl (w : World) : Ext w w := Below.refl _ w
theorem Ext.trans {a b c : World} (h : Ext a b) (g : Ext b c) : Ext a c := Below.trans h (Below.mono g h.size)
theorem Ext.drew (w : World) : Ext w w.drew := (Below.refl _ w).drew
theorem Ext.alloc (w : World) (o : Obj) : Ext w (w.alloc o) := (Below.refl _ w).alloc (q102 _) o
section
variable {P : Program} {ops : Array Oper} {Q : Exit → Act → World → Prop} {md : Region.Mode} {t : Nat}
def doneB (t : Nat) (listed : Array Bool) : Bool := (List.range t).all fun k => listed.getD k true
def wpAnyB (P : Program) (md : Region.Mode) (ops : Array Oper) (Q : Exit → Act → World → Prop) (t : Nat) : Nat → Array Bool → Act → World → Prop
 | 0, listed, a, w => ∀ w', Ext w w' → wpAny P md ops Q 0 listed a w'
 | fuel + 1, listed, a, w =>
  (doneB t listed = true → ∀ w', Ext w w' → wpAny P md ops Q (fuel + 1) listed a w') ∧
  (doneB t listed = false → ∀ w', Ext w w' → Region.ready md ops listed ≠ [] ∧
   ∀ i ∈ Region.ready md ops listed, wpOp P ops Q i (fun a' w'' => Ext w' w'' ∧ wpAnyB P md ops Q t fuel (listed.setIfInBounds i true) a' w'') a w')
theorem wpAnyB_up : ∀ {fuel : Nat} {listed : Array Bool} {a : Act} {w w' : World}, Ext w w' → wpAnyB P md ops Q t fuel listed a w → wpAnyB P md ops Q t fuel listed a w'
 | 0, _, _, _, _, hw, h => fun w2 h2 => h w2 (hw.trans h2)
 | _ + 1, _, _, _, _, hw, h => ⟨fun hd w2 h2 => h.1 hd w2 (hw.trans h2), fun hd w2 h2 => h.2 hd w2 (hw.trans h2)⟩
theorem wpAny_of_B : ∀ (fuel : Nat) {listed : Array Bool} {a : Act} {w : World}, wpAnyB P md ops Q t fuel listed a w → wpAny P md ops Q fuel listed a w
 | 0, _, _, w, h => h w (Ext.refl w)
 | fuel + 1, listed, _, w, h => by
  cases hd : doneB t listed with
  | true => exact h.1 hd w (Ext.refl w)
  | false =>
   obtain ⟨h1, h2⟩ := h.2 hd w (Ext.refl w)
   exact ⟨fun h0 => absurd h0 h1, fun i hi => wpOp_mono (fun a' w' h' => wpAny_of_B fuel h'.2) (h2 i hi)⟩
def YieldsB (P : Program) (ops : Array Oper) (C : World → Prop) (o : Oper) (v : Value) (a : Act) : Prop :=
 (Region.wanted o (yielded ops a.tmps) = true ∧ ∀ w, C w → o.quietAt P a (Ext w) w v) ∨ (Region.wanted o (yielded ops a.tmps) = false ∧ v = undef)
variable {C : World → Prop}
theorem YieldsB.of_same {o : Oper} {v : Value} {a a' : Act} (hy : YieldsB P ops C o v a) (he : execOp a'.eval o = execOp a.eval o)
  (hw : Region.wanted o (yielded ops a'.tmps) = Region.wanted o (yielded ops a.tmps)) : YieldsB P ops C o v a' := by
 rcases hy with ⟨h1, h2⟩ | ⟨h1, h2⟩
 ·exact Or.inl ⟨hw.trans h1, fun w hc => by have := h2 w hc; unfold Oper.quietAt at *; rwa [he]⟩
 ·exact Or.inr ⟨hw.trans h1, h2⟩
theorem YieldsB.wpOp {i : Nat} {o : Oper} {v : Value} {a : Act} (hi : ops[i]? = some o) (hy : YieldsB P ops C o v a) {K : Act → World → Prop} {w : World} (hC : C w)
  (h : ∀ w', Ext w w' → K (a.put o.dst v) w') : wpOp P ops Q i K a w := by
 unfold Go.wpOp
 simp only [hi]
 rcases hy with ⟨hw, hv⟩ | ⟨hw, rfl⟩
 ·rw [if_pos hw]
  left
  have h3 := hv w hC
  unfold Oper.quietAt at h3
  unfold Oper.wp
  generalize (execOp a.eval o).run P w = r at *
  cases r with
  | halt x w' => exact h3.elim
  | ok n w' =>
   cases n <;> simp only [Oper.quietUpon] at h3 <;> simp only [Oper.upon]
   case value u =>
    obtain ⟨e1, e2⟩ := h3
    rw [e1, e2]
    exact h _ (Ext.refl _)
   case skip =>
    obtain ⟨e1, e2⟩ := h3
    rw [e1, ← e2]
    exact h _ (Ext.refl _)
   case enter f args =>
    obtain ⟨e1, hc⟩ := h3
    rw [e1]
    exact hc.mono fun e w'' ⟨he, hw''⟩ => by subst he; exact h _ hw''
 ·rw [if_neg (by simp [hw])]
  exact h _ (Ext.refl _)
theorem wpOp_keep {j : Nat} {oj : Oper} {Y : Act → Prop} {K : Act → World → Prop} {a : Act} {w : World} (hj : ops[j]? = some oj) (hput : ∀ u, Y (a.put oj.dst u))
  (hdef : ∀ d, Y ({ a with defers := d :: a.defers }.put oj.dst undef)) (h : wpOp P ops Q j K a w) : wpOp P ops Q j (fun a' w' => Y a' ∧ K a' w') a w := by
 unfold wpOp at *
 simp only [hj] at *
 split
 ·rename_i hw
  simp only [hw, if_true] at h
  rcases h with h | h
  ·left
   unfold Oper.wp at *
   generalize (execOp a.eval oj).run P w = r at *
   cases r with
   | halt x w' => cases x <;> simp only [Oper.upon] at h ⊢ <;> exact h
   | ok n w' =>
    cases n <;> simp only [Oper.upon] at h ⊢
    case value u => exact ⟨hput u, h⟩
    case skip => exact ⟨hput _, h⟩
    case defer d => exact ⟨hdef d, h⟩
    case enter f args =>
     refine Calls.mono h fun e w'' he => ?_
     cases e with
     | returned u => exact ⟨hput u, he⟩
     | panicked c => exact he
     | outgrown => exact he
    case row r args2 => exact Rows.mono h fun u w'' he => ⟨hput u, he⟩
  ·exact Or.inr h
 ·rename_i hw
  simp only [hw] at h
  exact ⟨hput _, h⟩
theorem wpAnyB_first {i : Nat} {oi : Oper} {v : Value} (hi : ops[i]? = some oi) (hit : i < t) (hsel : ∀ (j : Nat) (o : Oper) cs b, ops[j]? = some o → o.op ≠ .select cs b)
  (hQ : ∀ d v c a w, Q (.panic c) (Act.put a d v) w → Q (.panic c) a w) (cl : Array Bool) (hsz : cl.size = ops.size) (hcl : ∀ j ∈ Region.ready md ops cl, j = i) (htail : ∀ k, t ≤ k → cl.getD k false = false) :
  ∀ (fuel : Nat) (listed : Array Bool) (a : Act) (w : World),
   (∀ j oj, ops[j]? = some oj → j ≠ i → listed.getD j true = false → (∀ e ∈ oj.after, Region.binds md e = true → e.on ≠ i) → oi.apart ops oj = true) →
   i ∈ Region.ready md ops listed → (∀ k, listed.getD k false = true → cl.getD k false = true) → YieldsB P ops C oi v a → (∀ w', Ext w w' → C w') →
   wpAnyB P md ops Q t fuel (listed.setIfInBounds i true) (a.put oi.dst v) w → wpAnyB P md ops Q t (fuel + 1) listed a w := by
 intro fuel
 induction fuel with
 | zero =>
  intro listed a w hfree hr hsub hy hC H
  have hun := (mem_ready.1 hr).1
  have hnd : doneB t listed = false := by
   unfold doneB
   rw [List.all_eq_false]
   exact ⟨i, List.mem_range.2 hit, by rw [hun]; simp⟩
  refine ⟨fun h => (by rw [hnd] at h; cases h), fun _ w' hw' => ⟨List.ne_nil_of_mem hr, fun j hj => ?_⟩⟩
  by_cases hji : j = i
  ·subst hji
   exact hy.wpOp hi (hC w' hw') (fun w'' h'' => ⟨h'', wpAnyB_up (hw'.trans h'') H⟩)
  ·have h0 := (H w' hw').1
   have := ready_mono hj hji
   rw [h0] at this
   cases this
 | succ fuel ih =>
  intro listed a w hfree hr hsub hy hC H
  have hun := (mem_ready.1 hr).1
  have hnd : doneB t listed = false := by
   unfold doneB
   rw [List.all_eq_false]
   exact ⟨i, List.mem_range.2 hit, by rw [hun]; simp⟩
  refine ⟨fun h => (by rw [hnd] at h; cases h), fun _ w' hw' => ⟨List.ne_nil_of_mem hr, fun j hj => ?_⟩⟩
  by_cases hji : j = i
  ·subst hji
   exact hy.wpOp hi (hC w' hw') (fun w'' h'' => ⟨h'', wpAnyB_up (hw'.trans h'') H⟩)
  ·obtain ⟨hjun, oj, hoj, hall⟩ := mem_ready.1 hj
   have hjlt : j < ops.size := (Array.getElem?_eq_some_iff.1 hoj).1
   have hjcl : cl.getD j false = true := by
    cases hc : cl.getD j false with
    | true => rfl
    | false =>
     refine absurd (hcl j (mem_ready.2 ⟨?_, oj, hoj, fun e he hb => hsub _ (hall e he hb)⟩)) hji
     have hjs : j < cl.size := by omega
     simpa [Array.getD, hjs] using hc
   have hjt : j < t := by
    rcases q116 j t with h | h
    ·exact h
    ·rw [htail j h] at hjcl; cases hjcl
   cases hd : doneB t (listed.setIfInBounds i true) with
   | true =>
    unfold doneB at hd
    have := (List.all_eq_true.1 hd) j (List.mem_range.2 hjt)
    rw [getD_set_ne true (Ne.symm hji), hjun] at this
    cases this
   | false =>
    have h1 := ((H.2 hd) w' hw').2 j (ready_mono hj hji)
    have hnot : ∀ e ∈ oj.after, Region.binds md e = true → e.on ≠ i := fun e he hb heq => by
     have h2 := hall e he hb
     rw [heq] at h2
     rcases q116 i listed.size with h' | h'
     ·simp [h'] at hun h2; rw [hun] at h2; cases h2
     ·simp [Array.getElem?_eq_none h'] at h2
    have hap := hfree j oj hoj hji hjun hnot
    obtain ⟨a1, a2, a3⟩ := Oper.apart_spec hap
    have hyf : YieldsIf P ops (fun _ => False) oi v a := hy.imp (fun h => ⟨h.1, fun _ h => h.elim⟩) id
    have h2 := wpOp_putIf hoj hap (fun cs b => hsel i oi cs b hi) (fun cs b => hsel j oj cs b hoj) (fun c a w h => hQ _ _ c a w h) hyf h1
    have keep : ∀ u, YieldsB P ops C oi v (a.put oj.dst u) := fun u => hy.of_same (execOp_put oi (fun cs b => hsel i oi cs b hi) a oj.dst u a3) (wanted_put oi a oj.dst u a3)
    have keepD : ∀ d, YieldsB P ops C oi v ({ a with defers := d :: a.defers }.put oj.dst undef) := fun d =>
     (hy.of_same (a' := { a with defers := d :: a.defers }) rfl rfl).of_same (execOp_put oi (fun cs b => hsel i oi cs b hi) _ oj.dst undef a3) (wanted_put oi _ oj.dst undef a3)
    have h3 := wpOp_keep (Y := YieldsB P ops C oi v) hoj keep keepD h2
    refine wpOp_mono (fun a' w'' h4 => ⟨h4.2.2.1, ih (listed.setIfInBounds j true) a' w'' ?_ (ready_mono hr (Ne.symm hji)) ?_ h4.1 (fun w3 h5 => hC w3 ((hw'.trans h4.2.2.1).trans h5)) ?_⟩) h3
    ·intro k ok hk hki hkun hkno
     refine hfree k ok hk hki ?_ hkno
     by_cases hjk : j = k
     ·subst hjk; exact hjun
     ·rwa [getD_set_ne true hjk] at hkun
    ·intro k hk
     by_cases hjk : j = k
     ·subst hjk; exact hjcl
     ·rw [getD_set_ne false hjk] at hk
      exact hsub k hk
    ·rw [Array.setIfInBounds_comm _ _ hji]
     exact h4.2.2.2
def closeB (md : Region.Mode) (ops : Array Oper) (i : Nat) (listed : Array Bool) : Array Bool :=
 (List.range ops.size).foldl (fun c j => if j == i || c.getD j true then c else if ((ops[j]?).map (·.after.all fun e => !Region.binds md e || c.getD e.on false)).getD false then c.setIfInBounds j true else c) listed
def detB (md : Region.Mode) (ops : Array Oper) (t : Nat) : Nat → Nat → Array Bool → Bool
 | 0, _, _ => true
 | d + 1, k, listed =>
  let cl := closeB md ops k listed
  (Region.ready md ops listed).contains k && Region.free md ops listed k && Nat.blt k t && (cl.size == ops.size) && (Region.ready md ops cl).all (· == k) && (List.range cl.size).all (fun j => Nat.blt j t || !cl.getD j false) && (List.range listed.size).all (fun j => !listed.getD j false || cl.getD j false) &&
   detB md ops t d (k + 1) (listed.setIfInBounds k true)
def wpDet (P : Program) (ops : Array Oper) (C : World → Prop) (Q : Act → Prop) : List Oper → Act → Prop
 | [], a => Q a
 | o :: rest, a => (Region.wanted o (yielded ops a.tmps) = true → ∃ v, (∀ w, C w → o.quietAt P a (Ext w) w v) ∧ wpDet P ops C Q rest (a.put o.dst v)) ∧ (Region.wanted o (yielded ops a.tmps) = false → wpDet P ops C Q rest (a.put o.dst undef))
def listN : Nat → Nat → Array Bool → Array Bool
 | 0, _, l => l
 | d + 1, k, l => listN d (k + 1) (l.setIfInBounds k true)
theorem wpAnyB_lex (hs : Region.noSelect ops = true) (hQ : ∀ d v c a w, Q (.panic c) (Act.put a d v) w → Q (.panic c) a w) (m : Nat) : ∀ (l : List Oper) (k : Nat) (listed : Array Bool) (a : Act) (w : World), (∀ j, j < l.length → l[j]? = ops[k + j]?) →
  detB md ops t l.length k listed = true → (∀ w', Ext w w' → C w') → wpDet P ops C (fun a' => wpAnyB P md ops Q t m (listN l.length k listed) a' w) l a → wpAnyB P md ops Q t (l.length + m) listed a w
 | [], _, _, _, _, _, _, _, h => by simpa [wpDet, listN] using h
 | o :: l, k, listed, a, w, hl, hB, hC, h => by
  have h0 : ops[k]? = some o := by simpa using (hl 0 (by simp)).symm
  simp only [q126, detB, Bool.and_eq_true] at hB
  obtain ⟨⟨⟨⟨⟨⟨⟨b1, b2⟩, b3⟩, b4⟩, b5⟩, b6⟩, b7⟩, b8⟩ := hB
  have hy : ∃ v, YieldsB P ops C o v a ∧ wpDet P ops C (fun a' => wpAnyB P md ops Q t m (listN l.length (k + 1) (listed.setIfInBounds k true)) a' w) l (a.put o.dst v) := by
   cases hw : Region.wanted o (yielded ops a.tmps) with
   | true =>
    obtain ⟨v, h1, h2⟩ := h.1 hw
    exact ⟨v, Or.inl ⟨hw, h1⟩, h2⟩
   | false => exact ⟨undef, Or.inr ⟨hw, rfl⟩, h.2 hw⟩
  obtain ⟨v, hy, hK⟩ := hy
  rw [q126, Nat.add_right_comm]
  have hcs : (closeB md ops k listed).size = ops.size := by simpa using b4
  refine wpAnyB_first h0 (by simpa using b3) (Region.noSelect_spec hs) hQ (closeB md ops k listed) hcs (fun j hj => by simpa using (List.all_eq_true.1 b5) j hj) (fun j hj => ?_) (l.length + m) listed a w (Region.free_spec h0 b2) (by simpa using b1) (fun j hj => ?_) hy hC
   (wpAnyB_lex hs hQ m l (k + 1) _ _ w (fun j hj => by have := hl (j + 1) (by simp; omega); simpa [Nat.add_assoc, Nat.add_comm 1 j] using this) b8 hC hK)
  ·rcases q116 j (closeB md ops k listed).size with h' | h'
   ·have := (List.all_eq_true.1 b6) j (List.mem_range.2 h')
    simp at this
    rcases this with h2 | h2
    ·omega
    ·simpa [Array.getD, h'] using h2
   ·simp [Array.getD, Nat.not_lt.2 h']
  ·rcases q116 j listed.size with h' | h'
   ·have := (List.all_eq_true.1 b7) j (List.mem_range.2 h')
    simp only [Bool.or_eq_true, Bool.not_eq_true'] at this
    rcases this with h2 | h2
    ·rw [hj] at h2; cases h2
    ·exact h2
   ·simp [Array.getD, Nat.not_lt.2 h'] at hj
theorem wp_region_from {id : Nat} {a : Act} {w : World} (d m t : Nat) (hdm : ops.size = d + m) (hm : P.follows .mixedOrders = true) (hs : Region.noSelect ops = true)
  (hQ : ∀ d v c a w, Q (.panic c) (Act.put a d v) w → Q (.panic c) a w) (hB : detB .any ops t d 0 (Array.replicate ops.size false) = true)
  (h : wpDet P ops (Ext w) (fun a' => wpAnyB P .any ops Q t m (listN d 0 (Array.replicate ops.size false)) a' w.drew) (ops.toList.take d) a) : (Code.region id ops true).wp P Q a w := by
 have hl : (ops.toList.take d).length = d := by simp; omega
 refine wp_region_any hm (wpAny_of_B (t := t) _ ?_)
 have := wpAnyB_lex (C := Ext w) (md := .any) (w := w.drew) hs hQ m (ops.toList.take d) 0 (Array.replicate ops.size false) a (fun j hj => by
  rw [hl] at hj
  rw [List.getElem?_take_of_lt hj, q125, Array.getElem?_toList]) (by rw [hl]; exact hB) (fun w' hw' => (Ext.drew w).trans hw') (by rw [hl]; exact h)
 rw [hl] at this
 rw [hdm] at this ⊢
 exact this
end
end
section
section
variable {P : Program} {ops : Array Oper} {Q : Exit → Act → World → Prop} {md : Region.Mode} {t : Nat} {C : World → Prop} {D : Act → Prop}
theorem zao {a : Act} (h : D a) : wpDet P ops C D [] a := h
theorem zaw {o : Oper} {rest : List Oper} {a : Act} (v : Value) (hw : Region.wanted o (yielded ops a.tmps) = true) (h : ∀ w, C w → (execOp a.eval o).run P w = .ok (.value v) w)
  (next : wpDet P ops C D rest (a.put o.dst v)) : wpDet P ops C D (o :: rest) a :=
 ⟨fun _ => ⟨v, fun w hw' => by unfold Oper.quietAt; rw [h w hw']; exact ⟨rfl, rfl⟩, next⟩, fun h' => by rw [hw] at h'; cases h'⟩
theorem zas {o : Oper} {rest : List Oper} {a : Act} (x : Operand) (v : Value) (hw : Region.wanted o (yielded ops a.tmps) = true) (ho : o.op = .move x) (hx : a.eval x = v)
  (next : wpDet P ops C D rest (a.put o.dst v)) : wpDet P ops C D (o :: rest) a :=
 zaw v hw (fun w _ => by unfold execOp; simp only [ho, hx, Sem.run_pure]) next
theorem zbi {o : Oper} {rest : List Oper} {a : Act} (x : Operand) (v : Value) (hw : Region.wanted o (yielded ops a.tmps) = true) (ho : o.op = .assign x) (hx : a.eval x = v)
  (next : wpDet P ops C D rest (a.put o.dst v)) : wpDet P ops C D (o :: rest) a :=
 zaw v hw (fun w _ => by unfold execOp; simp only [ho, hx, Sem.run_pure]) next
theorem zax {o : Oper} {rest : List Oper} {a : Act} (ty : TypeId) (x : Operand) (c : Nat) (cs : List Value) (d : TypeDesc) (hw : Region.wanted o (yielded ops a.tmps) = true) (ho : o.op = .load ty x)
  (hx : a.eval x = .pointer (some ⟨c, 0, none⟩)) (hC : ∀ w, C w → w.rangeAt c 0 cs) (hu : P.underlying ty = some d) (hd : d.isRow = true) (hi : (P.info? ty).map (·.size) = some cs.length)
  (next : wpDet P ops C D rest (a.put o.dst (.agg cs.toArray))) : wpDet P ops C D (o :: rest) a := by
 rcases yieldsIf_load_mid (S := C) hw ty x ho c 0 hx cs d hC hu hd hi with ⟨_, h⟩ | ⟨h, _⟩
 ·exact zaw _ hw h next
 ·rw [hw] at h; cases h
theorem det_call {o : Oper} {rest : List Oper} {a : Act} (f : FuncId) (bs : Array Operand) (ts : Array TypeId) (args : List Value) (v : Value) (hw : Region.wanted o (yielded ops a.tmps) = true)
  (ho : o.op = .call { callee := .value (.func f), args := bs, argTypes := ts }) (hen : ∀ args w, (callFunc f args).run P w = .ok (.enter f args) w) (ha : bs.toList.map a.eval = args)
  (hc : ∀ w, C w → Calls P f args.toArray w fun e w' => e = .returned v ∧ Below w.heap.size w w') (next : wpDet P ops C D rest (a.put o.dst v)) : wpDet P ops C D (o :: rest) a :=
 ⟨fun _ => ⟨v, fun w hw' => by
  have hb : bs.map a.eval = args.toArray := by
   apply Array.ext'
   simpa using ha
  unfold Oper.quietAt execOp
  simp only [ho, resolve, hb, Sem.run_bind]
  simp only [Act.eval, Deferred.ofValue, Sem.run_pure, Result.andThen_ok, invoke, Array.append_empty, Array.empty_append, hen]
  exact ⟨rfl, hc w hw'⟩, next⟩, fun h' => by rw [hw] at h'; cases h'⟩
theorem det_cell {o : Oper} {rest : List Oper} {a : Act} (ty : TypeId) (x : Operand) (c k : Nat) (v : Value) (hw : Region.wanted o (yielded ops a.tmps) = true) (ho : o.op = .load ty x)
  (hx : a.eval x = .pointer (some ⟨c, k, none⟩)) (hC : ∀ w, C w → w.cell? ⟨c, k, none⟩ = some v) (ha : ∀ w, (isAgg ty).run P w = .ok false w)
  (next : wpDet P ops C D rest (a.put o.dst v)) : wpDet P ops C D (o :: rest) a :=
 zaw v hw (fun w hw' => by
  have hc := hC w hw'
  unfold execOp
  simp [ho, hx, Instr.loadAt, Instr.sureAddr, loadVar, ha, hc]) next
theorem det_mul {o : Oper} {rest : List Oper} {a : Act} (ty rt : TypeId) (x y : Operand) (k : IntKind) (m n r : Int) (hw : Region.wanted o (yielded ops a.tmps) = true) (ho : o.op = .binOp .mul ty x y rt) (hx : a.eval x = .int k m) (hy : a.eval y = .int k n) (hr : k.wrap (m * n) = r)
  (next : wpDet P ops C D rest (a.put o.dst (.int k r))) : wpDet P ops C D (o :: rest) a :=
 zaw _ hw (fun w _ => by unfold execOp; simp [ho, hx, hy, eqGuard, binOp, Op.intArith, hr]) next
theorem zfm {o : Oper} {rest : List Oper} {a : Act} (ty rt : TypeId) (x y : Operand) (k : IntKind) (m n r : Int) (hw : Region.wanted o (yielded ops a.tmps) = true) (ho : o.op = .binOp .add ty x y rt) (hx : a.eval x = .int k m) (hy : a.eval y = .int k n) (hr : k.wrap (m + n) = r)
  (next : wpDet P ops C D rest (a.put o.dst (.int k r))) : wpDet P ops C D (o :: rest) a :=
 zaw _ hw (fun w _ => by unfold execOp; simp [ho, hx, hy, eqGuard, binOp, Op.intArith, hr]) next
theorem zfl {o : Oper} {rest : List Oper} {a : Act} (ty rt : TypeId) (x y : Operand) (k : IntKind) (m n r : Int) (hw : Region.wanted o (yielded ops a.tmps) = true) (ho : o.op = .binOp .and ty x y rt) (hx : a.eval x = .int k m) (hy : a.eval y = .int k n) (hr : bits .and k m n = r)
  (next : wpDet P ops C D rest (a.put o.dst (.int k r))) : wpDet P ops C D (o :: rest) a :=
 zaw _ hw (fun w _ => by rw [← hr]; unfold execOp bits; simp [ho, hx, hy, eqGuard, binOp, Op.intBits]) next
theorem det_or {o : Oper} {rest : List Oper} {a : Act} (ty rt : TypeId) (x y : Operand) (k : IntKind) (m n r : Int) (hw : Region.wanted o (yielded ops a.tmps) = true) (ho : o.op = .binOp .or ty x y rt) (hx : a.eval x = .int k m) (hy : a.eval y = .int k n) (hr : bits .or k m n = r)
  (next : wpDet P ops C D rest (a.put o.dst (.int k r))) : wpDet P ops C D (o :: rest) a :=
 zaw _ hw (fun w _ => by rw [← hr]; unfold execOp bits; simp [ho, hx, hy, eqGuard, binOp, Op.intBits]) next
theorem det_xor {o : Oper} {rest : List Oper} {a : Act} (ty rt : TypeId) (x y : Operand) (k : IntKind) (m n r : Int) (hw : Region.wanted o (yielded ops a.tmps) = true) (ho : o.op = .binOp .xor ty x y rt) (hx : a.eval x = .int k m) (hy : a.eval y = .int k n) (hr : bits .xor k m n = r)
  (next : wpDet P ops C D rest (a.put o.dst (.int k r))) : wpDet P ops C D (o :: rest) a :=
 zaw _ hw (fun w _ => by rw [← hr]; unfold execOp bits; simp [ho, hx, hy, eqGuard, binOp, Op.intBits]) next
theorem det_index {o : Oper} {rest : List Oper} {a : Act} (ty e : TypeId) (x y : Operand) (c n : Nat) (j : Nat) (hw : Region.wanted o (yielded ops a.tmps) = true) (ho : o.op = .indexAddr ty x y) (hx : a.eval x = .pointer (some ⟨c, 0, none⟩)) (hy : a.eval y = .int .i64 (j : Int))
  (hu : P.underlying ty = some (.array n e)) (hj : j < n) (hs : ∀ w, (sizeOf e).run P w = .ok 1 w)
  (next : wpDet P ops C D rest (a.put o.dst (.pointer (some ⟨c, j, none⟩)))) : wpDet P ops C D (o :: rest) a :=
 zaw _ hw (fun w _ => by
  have h1 : (0 : Int) ≤ (j : Int) ∧ (j : Int) < (n : Int) := by omega
  unfold execOp
  simp [ho, hx, hy, Instr.indexAt, asIntOf, run_underlying hu, Instr.sureAddr, h1, hs, Addr.add_mid, hj]) next
theorem det_field {o : Oper} {rest : List Oper} {a : Act} (ty : TypeId) (x : Operand) (c f j : Nat) (hw : Region.wanted o (yielded ops a.tmps) = true) (ho : o.op = .fieldAddr ty x f) (hx : a.eval x = .pointer (some ⟨c, 0, none⟩))
  (hr : ∀ w, (Instr.fieldAt ty (.pointer (some ⟨c, 0, none⟩)) f).run P w = .ok (.pointer (some ⟨c, j, none⟩)) w)
  (next : wpDet P ops C D rest (a.put o.dst (.pointer (some ⟨c, j, none⟩)))) : wpDet P ops C D (o :: rest) a :=
 zaw _ hw (fun w _ => by unfold execOp; simp only [ho, hx, Sem.run_bind, hr, Result.andThen_ok, Sem.run_pure]) next
theorem run_eqItems_bytes {e : TypeId} {i : TypeInfo} (he : P.underlying e = some (.int .u8)) (hi : P.info? e = some i) (d : Nat) (xs ys : List UInt8) (w : World) : ∀ is : List Nat, (∀ j ∈ is, j < xs.length ∧ j < ys.length) →
  (Op.eqItems (d + 1) e 1 (xs.map bval).toArray (ys.map bval).toArray is).run P w = .ok (is.all fun j => decide (xs.getD j 0 = ys.getD j 0)) w
 | [], _ => by simp [Op.eqItems]
 | j :: is, h => by
  obtain ⟨g1, g2⟩ := h j (List.mem_cons_self ..)
  have ih := run_eqItems_bytes he hi d xs ys w is (fun k hk => h k (List.mem_cons_of_mem _ hk))
  have p1 : ∀ zs : List UInt8, j < zs.length → (part e (zs.map bval).toArray (j * 1)).run P w = .ok (bval (zs.getD j 0)) w := by
   intro zs hz
   simp [part, isAgg, run_underlying he, hz, List.getD]
  simp only [Op.eqItems, Sem.run_bind, p1 xs g1, p1 ys g2, Result.andThen_ok, Op.equalIn, run_underlying he]
  have hbv : ∀ z : UInt8, bval z = .int .u8 (z.toNat : Int) := fun _ => rfl
  simp only [hbv]
  by_cases hq : xs.getD j 0 = ys.getD j 0
  ·simp only [hq, if_true, beq_self_eq_true, Sem.run_pure, Result.andThen_ok, Bool.not_true, Bool.false_eq_true, if_false, ih, List.all_cons, decide_true, Bool.true_and]
  ·have hb : (((xs.getD j 0).toNat : Int) == ((ys.getD j 0).toNat : Int)) = false := by
    rw [beq_eq_false_iff_ne]
    intro h'
    exact hq (UInt8.toNat_inj.1 (by omega))
   simp only [if_true, hb, Sem.run_pure, Result.andThen_ok, Bool.not_false, List.all_cons, hq, decide_false, Bool.false_and]
theorem zff {ty e : TypeId} {n : Nat} {i : TypeInfo} (hu : P.underlying ty = some (.array n e)) (he : P.underlying e = some (.int .u8)) (hi : P.info? e = some i) (hc : P.cellsOf e = 1) (xs ys : List UInt8) (hx : xs.length = n) (hy : ys.length = n) (w : World) :
  (Op.equal ty (.agg (xs.map bval).toArray) (.agg (ys.map bval).toArray)).run P w = .ok (decide (xs = ys)) w := by
 have h1 := run_equalIn_array (P := P) w 9999 (xs.map bval).toArray (ys.map bval).toArray hu hi
 rw [hc, run_eqItems_bytes he hi 9998 xs ys w (List.range n) (fun j hj => by have := List.mem_range.1 hj; omega)] at h1
 refine Eq.trans h1 ?_
 congr 1
 rw [Bool.eq_iff_iff, List.all_eq_true, decide_eq_true_iff]
 constructor
 ·intro h
  apply List.ext_getElem (by omega)
  intro k hk1 hk2
  have := h k (List.mem_range.2 (by omega))
  simpa [List.getD, hk1, hk2] using this
 ·rintro rfl j _
  simp
theorem det_eql {o : Oper} {rest : List Oper} {a : Act} (b : BinOp) (ty rt e : TypeId) (x y : Operand) (n : Nat) (i : TypeInfo) (xs ys : List UInt8) (r : Bool) (hw : Region.wanted o (yielded ops a.tmps) = true) (ho : o.op = .binOp b ty x y rt)
  (hb : b = .eql ∧ decide (xs = ys) = r ∨ b = .neq ∧ decide (xs = ys) = !r)
  (hu : P.underlying ty = some (.array n e)) (he : P.underlying e = some (.int .u8)) (hi : P.info? e = some i) (hc : P.cellsOf e = 1) (hg : P.eqGuardType P.depth ty = false)
  (hx : a.eval x = .agg (xs.map bval).toArray) (hy : a.eval y = .agg (ys.map bval).toArray) (lx : xs.length = n) (ly : ys.length = n)
  (next : wpDet P ops C D rest (a.put o.dst (.bool r))) : wpDet P ops C D (o :: rest) a :=
 zaw _ hw (fun w _ => by
  have h1 := zff hu he hi hc xs ys lx ly w
  rcases hb with ⟨rfl, hb⟩ | ⟨rfl, hb⟩
  ·rw [hb] at h1
   unfold execOp
   simp [ho, hx, hy, eqGuard, hg, binOp, h1]
  ·rw [hb] at h1
   unfold execOp
   simp [ho, hx, hy, eqGuard, hg, binOp, h1]) next
theorem end_none {listed : Array Bool} {a : Act} {w : World} (hr : Region.ready md ops listed = []) (h : ∀ w', Ext w w' → Q .normal a w') : wpAnyB P md ops Q t 0 listed a w.drew :=
 fun w' hw' => ⟨hr, h w' ((Ext.drew w).trans hw')⟩
theorem zeh {k : Nat} {o : Oper} {listed : Array Bool} {a : Act} {w : World} (hk : ops[k]? = some o) (hr : Region.ready md ops listed = [k]) (hr2 : Region.ready md ops (listed.setIfInBounds k true) = []) (hd : doneB t listed = true) (hg : o.guard = none)
  (h : ∀ w', Ext w w' → o.wp P a w' (fun a' w'' => Q .normal a' w'') Q) : wpAnyB P md ops Q t 1 listed a w.drew := by
 refine ⟨fun _ w' hw' => ⟨fun h0 => (by rw [hr] at h0; cases h0), fun i hi => ?_⟩, fun h0 => (by rw [hd] at h0; cases h0)⟩
 rw [hr] at hi
 obtain rfl : i = k := by simpa using hi
 unfold wpOp
 simp only [hk, Region.wanted, hg, if_true]
 exact Or.inl (Oper.wp_mono (fun a' w'' h' => ⟨hr2, h'⟩) (h w' ((Ext.drew w).trans hw')))
theorem end_alloc {k : Nat} {o1 o2 : Oper} {listed : Array Bool} {a : Act} {w : World} (hk : ops[k]? = some o1) (hk2 : ops[k + 1]? = some o2) (hr : Region.ready md ops listed = [k]) (hr2 : Region.ready md ops (listed.setIfInBounds k true) = [k + 1])
  (hr3 : Region.ready md ops ((listed.setIfInBounds k true).setIfInBounds (k + 1) true) = []) (hd : doneB t listed = false) (hd2 : doneB t (listed.setIfInBounds k true) = true) (hg : o1.guard = none) (hg2 : o2.guard = none)
  (h : ∀ w', Ext w w' → o1.wp P a w' (fun a' w'' => Ext w' w'' ∧ ∀ w3, Ext w'' w3 → o2.wp P a' w3 (fun a'' w4 => Q .normal a'' w4) Q) Q) : wpAnyB P md ops Q t 2 listed a w.drew := by
 refine ⟨fun h0 => (by rw [hd] at h0; cases h0), fun _ w' hw' => ⟨by rw [hr]; simp, fun i hi => ?_⟩⟩
 rw [hr] at hi
 obtain rfl : i = k := by simpa using hi
 unfold wpOp
 simp only [hk, Region.wanted, hg, if_true]
 refine Or.inl (Oper.wp_mono (fun a' w'' h' => ⟨h'.1, ?_⟩) (h w' ((Ext.drew w).trans hw')))
 refine ⟨fun _ w3 hw3 => ⟨fun h0 => (by rw [hr2] at h0; cases h0), fun j hj => ?_⟩, fun h0 => (by rw [hd2] at h0; cases h0)⟩
 rw [hr2] at hj
 obtain rfl : j = i + 1 := by simpa using hj
 unfold wpOp
 simp only [hk2, Region.wanted, hg2, if_true]
 exact Or.inl (Oper.wp_mono (fun a'' w4 h4 => ⟨hr3, h4⟩) (h'.2 w3 hw3))
theorem zec {k : Nat} {o : Oper} {listed : Array Bool} {a : Act} {w : World} (ty tb : TypeId) (x y : Operand) (c : Nat) (vs cs : List Value) (hk : ops[k]? = some o) (hr : Region.ready md ops listed = [k]) (hr2 : Region.ready md ops (listed.setIfInBounds k true) = []) (hd : doneB t listed = true) (hg : o.guard = none)
  (ho : o.op = .store ty x y) (hx : a.eval x = .pointer (some ⟨c, 0, none⟩)) (hy : a.eval y = .agg vs.toArray) (hb : Blk w c cs tb) (hl : vs.length = cs.length) (hi : (P.info? ty).map (·.size) = some vs.length) (h1 : ∀ v ∈ vs, v.oneCell' = true)
  (h : ∀ w', Blk w' c vs tb → w.grownBy w' (some c) → Q .normal (a.put o.dst undef) w') : wpAnyB P md ops Q t 1 listed a w.drew :=
 zeh hk hr hr2 hd hg fun w' hw' => zak ty x y ho c vs hx hy tb cs (hb.same (hw'.block _ hb.lt)) hl hi h1 fun w4 hb4 hg4 => h w4 hb4 (grownBy_trans (grown_of_below hw' _) hg4)
theorem zep {k : Nat} {o1 o2 : Oper} {listed : Array Bool} {a : Act} {w : World} (ty : TypeId) (d : Nat) (y : Operand) (zs vs : List Value) (hk : ops[k]? = some o1) (hk2 : ops[k + 1]? = some o2) (hr : Region.ready md ops listed = [k]) (hr2 : Region.ready md ops (listed.setIfInBounds k true) = [k + 1])
  (hr3 : Region.ready md ops ((listed.setIfInBounds k true).setIfInBounds (k + 1) true) = []) (hd : doneB t listed = false) (hd2 : doneB t (listed.setIfInBounds k true) = true) (hg : o1.guard = none) (hg2 : o2.guard = none)
  (ho : o1.op = .alloc ty) (hdst : o1.dst = some d) (hz : ∀ w, (zeroValue ty).run P w = .ok (.agg zs.toArray) w)
  (ho2 : o2.op = .store ty (.tmp d) y) (hd' : d < a.tmps.size) (hy : ∀ p, (a.put (some d) (.pointer (some ⟨p, 0, none⟩))).eval y = .agg vs.toArray) (hl : vs.length = zs.length) (hi : (P.info? ty).map (·.size) = some vs.length) (h1 : ∀ v ∈ vs, v.oneCell' = true)
  (h : ∀ p w', w.heap.size ≤ p → Blk w' p vs ty → Ext w w' → Q .normal ((a.put (some d) (.pointer (some ⟨p, 0, none⟩))).put o2.dst undef) w') : wpAnyB P md ops Q t 2 listed a w.drew := by
 have hal : ∀ w, (execOp a.eval o1).run P w = .ok (.value (.pointer (some ⟨w.heap.size, 0, none⟩))) (w.alloc (.cells zs.toArray ty)) := fun w => by
  unfold execOp
  simp [ho, Instr.alloc, hz, newVar, newRow, Value.cells]
 refine end_alloc hk hk2 hr hr2 hr3 hd hd2 hg hg2 fun w' hw' => ?_
 unfold Oper.wp
 rw [hal w']
 simp only [Oper.upon, hdst]
 refine ⟨Ext.alloc _ _, fun w3 hw3 => ?_⟩
 have hb : Blk w3 w'.heap.size zs ty := (Blk.made w' zs ty).same (hw3.block _ (Blk.made w' zs ty).lt)
 refine zak ty (.tmp d) y ho2 w'.heap.size vs ?_ (hy _) ty zs hb hl hi h1 fun w4 hb4 hg4 => h _ w4 hw'.size hb4 ?_
 ·simp [Act.eval, Act.put, Array.getD, hd']
 ·exact Below.grown (hw'.trans ((Ext.alloc w' _).trans hw3)) hg4 (hw'.trans ((Ext.alloc w' _).trans hw3)).size (fun r hr => by cases hr; exact hw'.size)
theorem zap {w : World} {fn : Func} {p : Tmp} {ty : TypeId} (h : fn.results = #[.cell p ty]) (tmps : Array Value) (c : Nat) (tb : TypeId) (cs : List Value) (d : TypeDesc)
  (hp : tmps.getD p undef = .pointer (some ⟨c, 0, none⟩)) (hb : Blk w c cs tb) (hu : P.underlying ty = some d) (hd : d.isRow = true) (hi : (P.info? ty).map (·.size) = some cs.length) :
  (results fn tmps).run P w = .ok (.agg cs.toArray) w :=
 results_cell_row h tmps w c tb cs.toArray (0, 0) d hp hb hu (by cases d <;> simp_all [TypeDesc.isRow]) (by simpa using hi)
theorem zad {w w' : World} {c : Nat} {cs : List Value} {tb : TypeId} (h : Blk w c cs tb) (hb : Ext w w') : Blk w' c cs tb := h.same (hb.block _ h.lt)
theorem zaq {w w' : World} {c : Nat} {cs : List Value} {tb : TypeId} (h : Blk w c cs tb) (hb : Ext w w') : w'.rangeAt c 0 cs := (zad h hb).range
theorem zab {a b d : World} {c : Nat} (h : Ext a b) (hg : b.grownBy d (some c)) (hc : a.heap.size ≤ c) : Ext a d := Below.grown h hg h.size (fun k hk => by cases hk; exact hc)
end
end
section
theorem zal {zs : List Int} {i : Nat} {z : Int} (h : i < zs.length) : (zs.set i z).getD i 0 = z := by simp [List.getD, h]
theorem zag {zs : List Int} {i j : Nat} {z : Int} (h : i ≠ j) : (zs.set i z).getD j 0 = zs.getD j 0 := by simp [List.getD, List.getElem?_set_ne h]
theorem zeq {zs : List Int} {n : Nat} {P : Int → Prop} (hl : zs.length = n) (h : ∀ i, i < n → P (zs.getD i 0)) : ∀ z ∈ zs, P z := by
 intro z hz
 obtain ⟨i, hi, rfl⟩ := List.getElem_of_mem hz
 have := h i (by omega)
 rwa [show zs.getD i 0 = zs[i] from by simp [List.getD, hi]] at this
theorem zcj {zs : List Int} {P : Int → Prop} (h : ∀ z ∈ zs, P z) {i : Nat} (hi : i < zs.length) : P (zs.getD i 0) := by
 rw [show zs.getD i 0 = zs[i] from by simp [List.getD, hi]]
 exact h _ (List.getElem_mem _)
def leN : List UInt8 → Nat
 | [] => 0
 | b :: r => b.toNat + 256 * leN r
theorem bytes32 (l : List UInt8) (h : l.length = 32) : l = [l.getD 0 0, l.getD 1 0, l.getD 2 0, l.getD 3 0, l.getD 4 0, l.getD 5 0, l.getD 6 0, l.getD 7 0, l.getD 8 0, l.getD 9 0, l.getD 10 0, l.getD 11 0, l.getD 12 0, l.getD 13 0, l.getD 14 0, l.getD 15 0,
  l.getD 16 0, l.getD 17 0, l.getD 18 0, l.getD 19 0, l.getD 20 0, l.getD 21 0, l.getD 22 0, l.getD 23 0, l.getD 24 0, l.getD 25 0, l.getD 26 0, l.getD 27 0, l.getD 28 0, l.getD 29 0, l.getD 30 0, l.getD 31 0] := by
 match l, h with
 | [_, _, _, _, _, _, _, _, _, _, _, _, _, _, _, _, _, _, _, _, _, _, _, _, _, _, _, _, _, _, _, _], _ => rfl
theorem zbg {l : List UInt8} {i : Nat} (h : i < l.length) : (l.map bval)[i]? = some (.int .u8 ((l.getD i 0).toNat : Int)) := by
 simp [bval, List.getD, h]
def bytesN : Nat → Nat → List UInt8
 | 0, _ => []
 | k + 1, n => UInt8.ofNat (n % 256) :: bytesN k (n / 256)
theorem zfa : ∀ (l : List UInt8), bytesN l.length (leN l) = l
 | [] => rfl
 | b :: r => by
  have hb := b.toNat_lt
  have e1 : (b.toNat + 256 * leN r) % 256 = b.toNat := by omega
  have e2 : (b.toNat + 256 * leN r) / 256 = leN r := by omega
  simp only [leN, q126, bytesN, e1, e2, zfa r]
  congr 1
  simp
theorem zav : ∀ (k n : Nat), (bytesN k n).length = k
 | 0, _ => rfl
 | k + 1, n => by simp [bytesN, zav k]
theorem zea : ∀ (k n : Nat), leN (bytesN k n) = n % 256 ^ k
 | 0, n => by simp [bytesN, leN, Nat.mod_one]
 | k + 1, n => by
  have := zea k (n / 256)
  have e1 : (UInt8.ofNat (n % 256)).toNat = n % 256 := by
   rw [UInt8.toNat_ofNat']
   omega
  simp only [bytesN, leN, this, e1, q128]
  rw [q129 (256 ^ k) 256, Nat.mod_mul]
theorem zfn : ∀ (m n x : Nat), bytesN (m + n) x = bytesN m x ++ bytesN n (x / 256 ^ m)
 | 0, n, x => by simp [bytesN]
 | m + 1, n, x => by
  rw [Nat.add_right_comm]
  simp only [bytesN, q170]
  rw [zfn m n (x / 256), q177, q128, q129 256]
theorem bytesN_mod : ∀ (m x : Nat), bytesN m (x % 256 ^ m) = bytesN m x
 | 0, _ => rfl
 | m + 1, x => by
  have e1 : x % 256 ^ (m + 1) % 256 = x % 256 := Nat.mod_mod_of_dvd _ ⟨256 ^ m, by rw [q128, q129]⟩
  have e2 : x % 256 ^ (m + 1) / 256 = x / 256 % 256 ^ m := by rw [q128, q129, Nat.mod_mul_right_div_self]
  simp only [bytesN, e1, e2, bytesN_mod m]
theorem leN_lt : ∀ (l : List UInt8), leN l < 256 ^ l.length
 | [] => by simp [leN]
 | b :: r => by
  have hb := b.toNat_lt
  have := leN_lt r
  simp only [leN, q126, q128]
  omega
theorem andU1 (n : Nat) : bits .and .u8 (n : Int) 1 = ((n % 2 : Nat) : Int) := by
 have h : (BitVec.ofInt 8 1).toNat = 2 ^ 1 - 1 := by decide
 have key : (BitVec.ofInt 8 (n : Int) &&& BitVec.ofInt 8 1).toNat = ((n : Int) % ((2 ^ 8 : Nat) : Int)).toNat % 2 ^ 1 := by
  rw [BitVec.toNat_and, BitVec.toNat_ofInt, h, q145]
 show IntKind.u8.wrap ((BitVec.ofInt 8 (n : Int) &&& BitVec.ofInt 8 1).toNat : Nat) = _
 rw [key, IntKind.wrap_u8]
 omega
theorem leN_bit : ∀ (l : List UInt8) (i : Nat), i < 8 * l.length → leN l / 2 ^ i % 2 = (l.getD (i / 8) 0).toNat / 2 ^ (i % 8) % 2
 | [], i, h => by simp at h
 | b :: r, i, h => by
  rcases q116 i 8 with h8 | h8
  ·have e1 : i / 8 = 0 := by omega
   have e2 : i % 8 = i := by omega
   rw [e1, e2]
   simp only [leN, List.getD_cons_zero]
   generalize leN r = R
   generalize b.toNat = c
   rcases (by omega : i = 0 ∨ i = 1 ∨ i = 2 ∨ i = 3 ∨ i = 4 ∨ i = 5 ∨ i = 6 ∨ i = 7) with rfl | rfl | rfl | rfl | rfl | rfl | rfl | rfl <;> simp only [Nat.reducePow] <;> omega
  ·obtain ⟨j, rfl⟩ : ∃ j, i = 8 + j := ⟨i - 8, by omega⟩
   have hb := b.toNat_lt
   have e1 : (8 + j) / 8 = j / 8 + 1 := by omega
   have e2 : (8 + j) % 8 = j % 8 := by omega
   rw [e1, e2, List.getD_cons_succ, ← leN_bit r j (by rw [q126] at h; omega), Nat.pow_add, ← q177]
   congr 2
   simp only [leN]
   omega
theorem w64 {a : Nat} (ha : a < 18446744073709551616) : IntKind.u64.wrap (a : Int) = (a : Int) := by rw [IntKind.wrap_u64]; omega
theorem w64m (a : Nat) : IntKind.u64.wrap (a : Int) = ((a % 18446744073709551616 : Nat) : Int) := by rw [IntKind.wrap_u64]; omega
theorem natMul (a b : Nat) : (a : Int) * (b : Int) = ((a * b : Nat) : Int) := (Int.natCast_mul a b).symm
theorem natAdd (a b : Nat) : (a : Int) + (b : Int) = ((a + b : Nat) : Int) := (Int.natCast_add a b).symm
theorem or64 (a b : Nat) (ha : a < 18446744073709551616) (hb : b < 18446744073709551616) : bits .or .u64 (a : Int) (b : Int) = ((a ||| b : Nat) : Int) := by
 have e1 : (BitVec.ofInt 64 (a : Int)).toNat = a := by rw [BitVec.toNat_ofInt]; omega
 have e2 : (BitVec.ofInt 64 (b : Int)).toNat = b := by rw [BitVec.toNat_ofInt]; omega
 show IntKind.u64.wrap ((BitVec.ofInt 64 (a : Int) ||| BitVec.ofInt 64 (b : Int)).toNat : Nat) = _
 have e3 := (BitVec.ofInt 64 (a : Int) ||| BitVec.ofInt 64 (b : Int)).isLt
 rw [BitVec.toNat_or, e1, e2] at e3 ⊢
 exact w64 e3
theorem or_sum (k x y : Nat) (hx : x < 2 ^ k) : 2 ^ k * y ||| x = 2 ^ k * y + x := (Nat.two_pow_add_eq_or_of_lt hx y).symm
theorem zah {w w' : World} {c : Nat} {cs : List Value} {t : TypeId} (h : Blk w c cs t) (hb : Below w.heap.size w w') : w'.rangeAt c 0 cs := (h.same (hb.block _ h.lt)).range
theorem bl_blk {w w' : World} {c : Nat} {cs : List Value} {t : TypeId} (h : Blk w c cs t) (hb : Below w.heap.size w w') : Blk w' c cs t := h.same (hb.block _ h.lt)
def smL (n : UInt8) : List UInt8 := n :: List.replicate 31 0
theorem smL_length (n : UInt8) : (smL n).length = 32 := by simp [smL]
theorem leN_zeros : ∀ k, leN (List.replicate k 0) = 0
 | 0 => rfl
 | k + 1 => by rw [List.replicate_succ, leN, leN_zeros k]; rfl
def zer : List UInt8 := List.replicate 32 0
theorem zdx : zer.length = 32 := by simp [zer]
theorem leN_zer : leN zer = 0 := leN_zeros 32
def zero32 : List Value := ints .u8 (List.replicate 32 0)
section
variable {P : Program}
theorem zai {w : World} {fn : Func} {p u : Tmp} {ty : TypeId} (h : fn.results = #[.cell p ty, .tmp u]) (tmps : Array Value) (c : Nat) (tb : TypeId) (cs : List Value) (d : TypeDesc)
  (hp : tmps.getD p undef = .pointer (some ⟨c, 0, none⟩)) (hb : Blk w c cs tb) (hu : P.underlying ty = some d) (hd : d.isRow = true) (hi : (P.info? ty).map (·.size) = some cs.length) :
  (results fn tmps).run P w = .ok (.tuple #[.agg cs.toArray, tmps.getD u undef]) w := by
 rw [results_cell_tmp h, hp]
 simp only [asAddr, Sem.run_pure, Result.andThen_ok, run_loadVar_mid w c 0 ty cs d hb.range hu hd hi]
end
end
theorem Tryz.arr23 : (Tryz.prog.info? 23).map (·.size) = some 32 := by kernel_rfl
theorem zch : Tryz.prog.info? 5 = some (Tryz.prog.info? 5).get! := by kernel_rfl
theorem zby : Tryz.prog.cellsOf 5 = 1 := by kernel_rfl
theorem zcb : Tryz.prog.eqGuardType Tryz.prog.depth 23 = false := by kernel_rfl
theorem zer_size : (Tryz.prog.info? 23).map (·.size) = some (zer.map bval).length := by rw [q101, zdx]; exact Tryz.arr23
theorem build_zer (w : World) : (Instr.build 23 #[]).run Tryz.prog w = .ok (.agg (zer.map bval).toArray) w := by
 simp [Instr.build, q109]
 rfl
theorem build_one (w : World) : (Instr.build 23 #[(0, .int .u8 1)]).run Tryz.prog w = .ok (.agg ((smL 1).map bval).toArray) w := by
 simp [Instr.build, q109]
 rfl
theorem zac {l : List UInt8} (h : l.length = 32) : (Tryz.prog.info? 23).map (·.size) = some (l.map bval).length := by rw [q101, h]; exact Tryz.arr23
def dV : List Int → Int
 | [] => 0
 | z :: r => z + 65536 * dV r
theorem dV_set : ∀ (zs : List Int) (i : Nat) (z : Int), i < zs.length → dV (zs.set i z) = dV zs + (z - zs.getD i 0) * 65536 ^ i
 | [], i, z, h => by simp at h
 | a :: r, 0, z, h => by simp [dV]; omega
 | a :: r, i + 1, z, h => by
  have := dV_set r i z (by simpa using h)
  simp only [List.set_cons_succ, dV, this, List.getD_cons_succ, q122]
  grind
def bigM : Int := 65536 ^ 16
theorem bigM_15 : (65536 : Int) ^ 15 * 65536 = bigM := rfl
structure CY (zs zs' : List Int) (B : Int) (k : Nat) : Prop where
 len : zs'.length = 16
 val : dV zs' = dV zs
 low : ∀ i, i < k → 0 ≤ zs'.getD i 0 ∧ zs'.getD i 0 ≤ 65535
 here : -(B + B / 32768 + 2) ≤ zs'.getD k 0 ∧ zs'.getD k 0 ≤ B + B / 32768 + 2
 high : ∀ i, k < i → i < 16 → -B ≤ zs'.getD i 0 ∧ zs'.getD i 0 ≤ B
structure CZ (zs zs' : List Int) (B : Int) : Prop where
 len : zs'.length = 16
 ex : ∃ c, -(B / 32768 + 2) ≤ c ∧ c ≤ B / 32768 + 2 ∧ dV zs' = dV zs - (bigM - 38) * c ∧ 0 ≤ zs'.getD 0 0 - 38 * c ∧ zs'.getD 0 0 - 38 * c ≤ 65535
 low : ∀ i, 0 < i → i < 16 → 0 ≤ zs'.getD i 0 ∧ zs'.getD i 0 ≤ 65535
theorem CY.start {zs : List Int} {B : Int} (hl : zs.length = 16) (hB : ∀ z ∈ zs, -B ≤ z ∧ z ≤ B) (h0 : 0 ≤ B) : CY zs zs B 0 := by
 have g : ∀ i, i < 16 → -B ≤ zs.getD i 0 ∧ zs.getD i 0 ≤ B := fun i hi => by
  have : zs.getD i 0 = zs[i]'(by omega) := by simp [List.getD, show i < zs.length from by omega]
  rw [this]
  exact hB _ (List.getElem_mem _)
 have := g 0 (by omega)
 exact ⟨hl, rfl, fun i hi => by omega, by omega, fun i _ hi => g i hi⟩
theorem CY.step {zs zs' : List Int} {B : Int} {k : Nat} (h : CY zs zs' B k) (hk : k < 15) (h0 : 0 ≤ B) :
  CY zs ((zs'.set k (zs'.getD k 0 - zs'.getD k 0 / 65536 * 65536)).set (k + 1) (zs'.getD (k + 1) 0 + zs'.getD k 0 / 65536)) B (k + 1) := by
 obtain ⟨h1, h2, h3, h4, h5⟩ := h
 have h6 := h5 (k + 1) (by omega) (by omega)
 refine ⟨by simp [h1], ?_, fun i hi => ?_, ?_, fun i hi hi2 => ?_⟩
 ·rw [dV_set _ _ _ (by simp; omega), dV_set _ _ _ (by omega), zag (by omega), h2, q122]
  generalize (65536 : Int) ^ k = X
  grind
 ·by_cases e : i = k
  ·subst e
   rw [zag (by omega), zal (by omega)]
   omega
  ·rw [zag (by omega), zag (by omega)]
   exact h3 i (by omega)
 ·rw [zal (by simp; omega)]
  omega
 ·rw [zag (by omega), zag (by omega)]
  exact h5 i (by omega) hi2
theorem CY.last {zs zs' : List Int} {B : Int} (h : CY zs zs' B 15) (h0 : 0 ≤ B) :
  CZ zs ((zs'.set 15 (zs'.getD 15 0 - zs'.getD 15 0 / 65536 * 65536)).set 0 (zs'.getD 0 0 + 38 * (zs'.getD 15 0 / 65536))) B := by
 obtain ⟨h1, h2, h3, h4, h5⟩ := h
 have h6 := h3 0 (by omega)
 refine ⟨by simp [h1], ⟨zs'.getD 15 0 / 65536, by omega, by omega, ?_, ?_, ?_⟩, fun i hi hi2 => ?_⟩
 ·rw [dV_set _ _ _ (by simp; omega), dV_set _ _ _ (by omega), zag (by omega), h2, ← bigM_15]
  generalize (65536 : Int) ^ 15 = X
  rw [Int.pow_zero]
  grind
 ·rw [zal (by simp; omega)]
  omega
 ·rw [zal (by simp; omega)]
  omega
 ·by_cases e : i = 15
  ·subst e
   rw [zag (by omega), zal (by omega)]
   omega
  ·rw [zag (by omega), zag (by omega)]
   exact h3 i (by omega)
def CS (zs zs' : List Int) (B : Int) (k : Nat) : Prop := (k ≤ 15 ∧ CY zs zs' B k) ∨ (k = 16 ∧ CZ zs zs' B)
theorem Tryz.arr68 : (Tryz.prog.info? 68).map (·.size) = some 16 := by kernel_rfl
theorem carry_any (zs : List Int) (B : Int) (w : World) (hl : zs.length = 16) (hB : ∀ z ∈ zs, -B ≤ z ∧ z ≤ B) (hB0 : 0 ≤ B) (hB1 : B ≤ 576460752303423488) :
  Calls Tryz.prog 108 #[.agg (ints .i64 zs).toArray] w fun e w' => ∃ zs' : List Int, e = .returned (.agg (ints .i64 zs').toArray) ∧ CZ zs zs' B ∧ Below w.heap.size w w' := by
 have HS := jh (CY.start hl hB hB0)
 have hbl0 := jh (Blk.made w (ints .i64 zs) 68)
 clear hl hB
 go_enter Tryz.func108, Tryz.ntmps108
 go_wp2_with fail
 generalize hz : (#[Value.int .i64 0, .int .i64 0, .int .i64 0, .int .i64 0, .int .i64 0, .int .i64 0, .int .i64 0, .int .i64 0, .int .i64 0, .int .i64 0, .int .i64 0, .int .i64 0, .int .i64 0, .int .i64 0, .int .i64 0, .int .i64 0] : Array Value) = Z
 have HZ : Hid (Z = (ints .i64 (List.replicate 16 0)).toArray) := jh (by rw [← hz]; rfl)
 clear hz
 obtain ⟨A, hA⟩ : ∃ A, A = w.heap.size := ⟨_, rfl⟩
 have h1 : Blk ((w.alloc (.cells (ints .i64 zs).toArray 68)).alloc (.cells Z 68)) A (ints .i64 zs) 68 := by
  rw [hA]
  exact hbl0.out.alloc _
 have h2 : Blk ((w.alloc (.cells (ints .i64 zs).toArray 68)).alloc (.cells Z 68)) (A + 1) (ints .i64 (List.replicate 16 0)) 68 := by
  rw [HZ.out]
  have := Blk.made (w.alloc (.cells (ints .i64 zs).toArray 68)) (ints .i64 (List.replicate 16 0)) 68
  rw [hA]
  simpa using this
 have h3 : Below w.heap.size w ((w.alloc (.cells (ints .i64 zs).toArray 68)).alloc (.cells Z 68)) := ((Below.refl _ _).alloc (q102 _) _).alloc (by simp) _
 have hA2 : w.heap.size ≤ A := by omega
 rw [← hA]
 generalize (w.alloc (.cells (ints .i64 zs).toArray 68)).alloc (.cells Z 68) = w0 at *
 have H1 := jh h1
 have H2 := jh h2
 have H3 := jh h3
 clear h1 h2 h3 hA HZ
 go_loopw [3] (fun i wr => ∃ (k : Nat) (zs' : List Int), k ≤ 16 ∧ i = .int .i64 k ∧ CS zs zs' B k ∧ Blk wr A (ints .i64 zs') 68 ∧ Blk wr (A + 1) (ints .i64 (List.replicate 16 0)) 68 ∧ Below w.heap.size w wr) (fun i _ => 16 - (intOf i).toNat)
 case atStart => exact ⟨0, zs, by omega, rfl, Or.inl ⟨by omega, HS.out⟩, H1.out, H2.out, H3.out⟩
 case round =>
  clear HS H1 H2 H3 hbl0
  obtain ⟨k, zs', hk, rfl, hcs, hb1, hb2, hbel⟩ := hrel
  have i0' : (0 : Int) ≤ (k : Int) := Int.natCast_nonneg _
  rcases hcs with ⟨hk15, hcy⟩ | ⟨rfl, hcz⟩
  ·have hl16 := hcy.len
   have hh := hcy.here
   have ck := hb1.cell k
   rw [zan (by omega)] at ck
   have fk := hb1.free k
   by_cases hlt : k < 15
   ·have hh2 := hcy.high (k + 1) (by omega) (by omega)
    have ck2 := hb1.cell (k + 1)
    rw [zan (by omega)] at ck2
    have fk2 := hb1.free (k + 1)
    have hst := hcy.step hlt hB0
    generalize zs'.getD k 0 = x at *
    generalize zs'.getD (k + 1) 0 = y at *
    have HST := jh hst
    have HB1 := jh hb1
    have HB2 := jh hb2
    have HBE := jh hbel
    clear hcy hst hb1 hb2 hbel hl16
    go_wp2_with fail
    go_roundw
    case rel =>
     refine ⟨k + 1, _, by omega, by go_num, Or.inl ⟨by omega, HST.out⟩, ?_, (HB2.out.far (by simp) _).far (by simp) _, (HBE.out.setCell hA2 _).setCell hA2 _⟩
     rw [← zbq, ← zbq]
     exact (HB1.out.set k _).set (k + 1) _
    case measure => simp [intOf]; omega
   ·have hk' : k = 15 := by omega
    subst hk'
    have hh2 := hcy.low 0 (by omega)
    have ck2 := hb1.cell 0
    rw [zan (by omega)] at ck2
    have fk2 := hb1.free 0
    have hst := hcy.last hB0
    generalize zs'.getD 15 0 = x at *
    generalize zs'.getD 0 0 = y at *
    have HST := jh hst
    have HB1 := jh hb1
    have HB2 := jh hb2
    have HBE := jh hbel
    clear hcy hst hb1 hb2 hbel hl16
    go_wp2_with fail
    go_roundw
    case rel =>
     refine ⟨16, _, by omega, by go_num, Or.inr ⟨rfl, HST.out⟩, ?_, (HB2.out.far (by simp) _).far (by simp) _, (HBE.out.setCell hA2 _).setCell hA2 _⟩
     rw [← zbq, ← zbq]
     exact (HB1.out.set 15 _).set 0 _
    case measure => simp [intOf]
  ·have HB1 := jh hb1
   have HB2 := jh hb2
   have HBE := jh hbel
   have HCZ := jh hcz
   have hi1 : Hid ((Tryz.prog.info? 68).map (·.size) = some (ints .i64 zs').length) := jh (by rw [zaa, hcz.len]; exact Tryz.arr68)
   have hl1 : Hid ((ints .i64 zs').length = (ints .i64 (List.replicate 16 0)).length) := jh (by rw [zaa, zaa, hcz.len]; rfl)
   clear hb1 hb2 hbel hcz
   go_wp2_with (first | (refine zbh rfl _ _ rfl A rfl _ _ _ _ HB1.out q103 hi1.out ?_) | (refine zbe rfl _ _ _ rfl (A + 1) _ rfl rfl _ _ HB2.out hl1.out hi1.out (zaj _ _) ?_; intro w5 hb5 hg5))
   exact bodyPost_ret (v := .agg (ints .i64 zs').toArray) (zbc (by rfl) _ (A + 1) _ _ _ _ (by rfl) hb5 q103 hi1.out) rfl ⟨zs', rfl, HCZ.out, HBE.out.grown hg5 HBE.out.size (fun r hr => by cases hr; omega)⟩
theorem list16 (zs : List Int) (h : zs.length = 16) : zs = [zs.getD 0 0, zs.getD 1 0, zs.getD 2 0, zs.getD 3 0, zs.getD 4 0, zs.getD 5 0, zs.getD 6 0, zs.getD 7 0, zs.getD 8 0, zs.getD 9 0, zs.getD 10 0, zs.getD 11 0, zs.getD 12 0, zs.getD 13 0, zs.getD 14 0, zs.getD 15 0] := by
 match zs, h with
 | [_, _, _, _, _, _, _, _, _, _, _, _, _, _, _, _], _ => rfl
def pairAt (l : List UInt8) (i : Nat) : Int := (l.getD (2 * i) 0).toNat + 256 * (l.getD (2 * i + 1) 0).toNat
theorem pairAt_range (l : List UInt8) (i : Nat) : 0 ≤ pairAt l i ∧ pairAt l i ≤ 65535 := by
 unfold pairAt
 have h1 := (l.getD (2 * i) 0).toNat_lt
 have h2 := (l.getD (2 * i + 1) 0).toNat_lt
 omega
theorem dV_pairs (zs : List Int) (l : List UInt8) (hz : zs.length = 16) (hl : l.length = 32) (h : ∀ i, i < 16 → zs.getD i 0 = pairAt l i) : dV zs = leN l := by
 rw [list16 zs hz, bytes32 l hl]
 simp only [h 0 (by omega), h 1 (by omega), h 2 (by omega), h 3 (by omega), h 4 (by omega), h 5 (by omega), h 6 (by omega), h 7 (by omega), h 8 (by omega), h 9 (by omega), h 10 (by omega), h 11 (by omega), h 12 (by omega), h 13 (by omega), h 14 (by omega), h 15 (by omega)]
 simp only [dV, leN, pairAt, Nat.reduceMul, Nat.reduceAdd]
 omega
theorem or8 (x y : Nat) (hx : x < 256) (hy : y < 256) : bits .or .i64 (x : Int) ((y : Int) * 256) = x + 256 * (y : Int) := by
 have e1 : (BitVec.ofInt 64 (x : Int)).toNat = x := by rw [BitVec.toNat_ofInt]; omega
 have e2 : (BitVec.ofInt 64 ((y : Int) * 256)).toNat = 256 * y := by rw [BitVec.toNat_ofInt]; omega
 show IntKind.i64.wrap ((BitVec.ofInt 64 (x : Int) ||| BitVec.ofInt 64 ((y : Int) * 256)).toNat : Nat) = _
 rw [BitVec.toNat_or, e1, e2, Nat.or_comm]
 have := Nat.two_pow_add_eq_or_of_lt (i := 8) (b := x) (by simpa using hx) y
 have h2 : 256 * y ||| x = 256 * y + x := this.symm
 rw [h2, IntKind.wrap_i64]
 omega
structure InS (l : List UInt8) (zs : List Int) (k : Nat) : Prop where
 len : zs.length = 16
 low : ∀ i, i < k → zs.getD i 0 = pairAt l i
theorem InS.step {l : List UInt8} {zs : List Int} {k : Nat} (h : InS l zs k) (hk : k < 16) : InS l (zs.set k (pairAt l k)) (k + 1) := by
 obtain ⟨h1, h2⟩ := h
 refine ⟨by simp [h1], fun i hi => ?_⟩
 by_cases e : i = k
 ·subst e
  rw [zal (by omega)]
 ·rw [zag (by omega)]
  exact h2 i (by omega)
theorem InS.done {l : List UInt8} {zs : List Int} (h : InS l zs 16) (hl : l.length = 32) : (∀ z ∈ zs, 0 ≤ z ∧ z ≤ 65535) ∧ dV zs = leN l := by
 refine ⟨fun z hz => ?_, dV_pairs zs l h.len hl h.low⟩
 obtain ⟨i, hi, rfl⟩ := List.getElem_of_mem hz
 have hlen := h.len
 have := h.low i (by omega)
 rw [show zs[i] = zs.getD i 0 from by simp [List.getD, hi], this]
 exact pairAt_range l i
/-- in: the digits of a Num. -/
theorem rin_any (l : List UInt8) (w : World) (hl : l.length = 32) :
  Calls Tryz.prog 78 #[.agg (l.map bval).toArray] w fun e w' => ∃ zs : List Int, e = .returned (.agg (ints .i64 zs).toArray) ∧ zs.length = 16 ∧ (∀ z ∈ zs, 0 ≤ z ∧ z ≤ 65535) ∧ dV zs = leN l ∧ Below w.heap.size w w' := by
 have HL := jh hl
 have hbx := boxes3 w (l.map bval) (ints .i64 (List.replicate 16 0)) (ints .i64 (List.replicate 16 0)) 23 68 68
 have HBX := jh hbx
 clear hl hbx
 go_enter Tryz.func78, Tryz.ntmps78
 go_wp2_with fail
 change Code.wp _ _ _ _ (((w.alloc (.cells (l.map bval).toArray 23)).alloc (.cells (ints .i64 (List.replicate 16 0)).toArray 68)).alloc (.cells (ints .i64 (List.replicate 16 0)).toArray 68))
 generalize ((w.alloc (.cells (l.map bval).toArray 23)).alloc (.cells (ints .i64 (List.replicate 16 0)).toArray 68)).alloc (.cells (ints .i64 (List.replicate 16 0)).toArray 68) = w0 at *
 obtain ⟨h1, h2, h3, h4⟩ := HBX.out
 obtain ⟨A, hA⟩ : ∃ A, A = w.heap.size := ⟨_, rfl⟩
 rw [← hA] at h1 h2 h3 ⊢
 have hA2 : w.heap.size ≤ A := by omega
 have H1 := jh h1
 have H2 := jh h2
 have H3 := jh h3
 have H4 := jh h4
 clear h1 h2 h3 h4 HBX hA
 go_loopw [4] (fun i wr => ∃ (k : Nat) (zs : List Int), k ≤ 16 ∧ i = .int .i64 k ∧ InS l zs k ∧ Blk wr A (l.map bval) 23 ∧ Blk wr (A + 1) (ints .i64 (List.replicate 16 0)) 68 ∧ Blk wr (A + 1 + 1) (ints .i64 zs) 68 ∧ Below w.heap.size w wr) (fun i _ => 16 - (intOf i).toNat)
 case atStart => exact ⟨0, _, by omega, rfl, ⟨rfl, fun i hi => by omega⟩, H1.out, H2.out, H3.out, H4.out⟩
 case round =>
  clear H1 H2 H3 H4
  obtain ⟨k, zs, hk, rfl, hin, hb1, hb2, hb3, hbel⟩ := hrel
  have i0' : (0 : Int) ≤ (k : Int) := Int.natCast_nonneg _
  have hl16 := hin.len
  by_cases hlt : k < 16
  ·have hl := HL.out
   have e1 := hb1.cell (2 * k)
   rw [zbg (by omega)] at e1
   have e2 := hb1.cell (2 * k + 1)
   rw [zbg (by omega)] at e2
   have e3 := hb3.cell k
   rw [zan (by omega)] at e3
   have fk := hb3.free k
   have i1 : (k : Int) < 16 := by omega
   have s1 : IntKind.i64.wrap (2 * (k : Int)) = 2 * k := IntWalk.i64_in _ (by omega)
   have s2 : IntKind.i64.wrap (2 * (k : Int) + 1) = 2 * k + 1 := IntWalk.i64_in _ (by omega)
   have s3 : (2 * (k : Int)).toNat = 2 * k := by omega
   have s4 : (2 * (k : Int) + 1).toNat = 2 * k + 1 := by omega
   have s5 : (0 : Int) ≤ 2 * (k : Int) := by omega
   have s6 : (0 : Int) ≤ 2 * (k : Int) + 1 := by omega
   have s7 : 2 * (k : Int) < 32 := by omega
   have s8 : 2 * (k : Int) + 1 < 32 := by omega
   have hx := (l.getD (2 * k) 0).toNat_lt
   have hy := (l.getD (2 * k + 1) 0).toNat_lt
   have hor := or8 (l.getD (2 * k) 0).toNat (l.getD (2 * k + 1) 0).toNat (by simpa using hx) (by simpa using hy)
   have hst := hin.step hlt
   have hpa : pairAt l k = (l.getD (2 * k) 0).toNat + 256 * ((l.getD (2 * k + 1) 0).toNat : Int) := rfl
   rw [hpa, ← hor] at hst
   generalize (l.getD (2 * k) 0).toNat = x at *
   generalize (l.getD (2 * k + 1) 0).toNat = y at *
   have hy2 : y < 256 := by simpa using hy
   have hx2 : x < 256 := by simpa using hx
   have W1 : Hid (wrap64 (x : Int) = x) := jh (by rw [← IntWalk.i64_left]; exact IntWalk.i64_in _ (by omega))
   have W2 : Hid (wrap64 (y : Int) = y) := jh (by rw [← IntWalk.i64_left]; exact IntWalk.i64_in _ (by omega))
   have W3 : Hid (wrap64 ((y : Int) * 256) = y * 256) := jh (by rw [← IntWalk.i64_left]; exact IntWalk.i64_in _ (by omega))
   have HST := jh hst
   have HB1 := jh hb1
   have HB2 := jh hb2
   have HB3 := jh hb3
   have HBE := jh hbel
   clear hin hst hb1 hb2 hb3 hbel hl16 hl hor hpa hx hy hx2 hy2
   go_wp2_with fail
   go_region
   go_wp2_with fail
   go_roundw
   case rel =>
    rw [W1.out, W2.out, W3.out]
    refine ⟨k + 1, _, by omega, by go_num, HST.out, HB1.out.far (by simp; omega) _, HB2.out.far (by simp) _, ?_, (HBE.out.setCell (by simp; omega) _).drew⟩
    rw [← zbq]
    exact HB3.out.set k _
   case measure => simp [intOf]; omega
  ·have hk' : k = 16 := by omega
   subst hk'
   have HB2 := jh hb2
   have HB3 := jh hb3
   have HBE := jh hbel
   have HIN := jh hin
   have hi1 : Hid ((Tryz.prog.info? 68).map (·.size) = some (ints .i64 zs).length) := jh (by rw [zaa, hin.len]; exact Tryz.arr68)
   have hl1 : Hid ((ints .i64 zs).length = (ints .i64 (List.replicate 16 0)).length) := jh (by rw [zaa, zaa, hin.len]; rfl)
   clear hb1 hb2 hb3 hbel hin hl16
   go_wp2_with (first | (refine zbh rfl _ _ rfl (A + 1 + 1) rfl _ _ _ _ HB3.out q103 hi1.out ?_) | (refine zbe rfl _ _ _ rfl (A + 1) _ rfl rfl _ _ HB2.out hl1.out hi1.out (zaj _ _) ?_; intro w5 hb5 hg5))
   obtain ⟨q1, q2⟩ := HIN.out.done HL.out
   exact bodyPost_ret (v := .agg (ints .i64 zs).toArray) (zbc (by rfl) _ (A + 1) _ _ _ _ (by rfl) hb5 q103 hi1.out) rfl ⟨zs, rfl, HIN.out.len, q1, q2, HBE.out.grown hg5 HBE.out.size (fun r hr => by cases hr; omega)⟩
def pP : Int := 57896044618658097711785492504343953926634992332820282019728792003956564819949
def pN : Nat := 57896044618658097711785492504343953926634992332820282019728792003956564819949
theorem pP_nat : pP = (pN : Int) := rfl
theorem bigM_p : bigM = 2 * pP + 38 := by decide +kernel
def IsEl (v : Value) (x : Int) : Prop := ∃ zs : List Int, v = .agg (ints .i64 zs).toArray ∧ zs.length = 16 ∧ (∀ z ∈ zs, -131072 ≤ z ∧ z ≤ 131072) ∧ ∃ q, dV zs = x + pP * q
theorem CZ.el {zs zs' : List Int} {B : Int} (h : CZ zs zs' B) (hB : B ≤ 1048576) : (∀ z ∈ zs', -131072 ≤ z ∧ z ≤ 131072) ∧ ∃ q, dV zs' = dV zs + pP * q := by
 obtain ⟨h1, ⟨c, c1, c2, c3, c4, c5⟩, h3⟩ := h
 refine ⟨zeq (P := fun z => -131072 ≤ z ∧ z ≤ 131072) h1 (fun i hi => ?_), -2 * c, ?_⟩
 ·rcases q150 i with rfl | h0
  ·omega
  ·have := h3 i h0 hi
   omega
 ·rw [c3, bigM_p]
  grind
theorem zcq : ∀ (zs : List Int) (k : Nat), k < zs.length → dV (zs.take (k + 1)) = dV (zs.take k) + zs.getD k 0 * 65536 ^ k
 | [], k, h => by simp at h
 | a :: r, 0, h => by simp [dV]
 | a :: r, k + 1, h => by
  have := zcq r k (by simpa using h)
  simp only [List.take_succ_cons, dV, List.getD_cons_succ, q122] at this ⊢
  rw [this]
  grind
structure AddS (xs ys zs : List Int) (k : Nat) : Prop where
 len : zs.length = 16
 val : dV zs = dV xs + dV (ys.take k)
 high : ∀ i, k ≤ i → i < 16 → zs.getD i 0 = xs.getD i 0
 low : ∀ i, i < k → i < 16 → -262144 ≤ zs.getD i 0 ∧ zs.getD i 0 ≤ 262144
theorem AddS.step {xs ys zs : List Int} {k : Nat} (h : AddS xs ys zs k) (hk : k < 16) (ha : ∀ z ∈ xs, -131072 ≤ z ∧ z ≤ 131072) (hb : ∀ z ∈ ys, -131072 ≤ z ∧ z ≤ 131072) (hla : xs.length = 16) (hlb : ys.length = 16) :
  AddS xs ys (zs.set k (xs.getD k 0 + ys.getD k 0)) (k + 1) := by
 obtain ⟨h1, h2, h3, h4⟩ := h
 have b1 := zcj (P := fun z => -131072 ≤ z ∧ z ≤ 131072) ha (i := k) (by omega)
 have b2 := zcj (P := fun z => -131072 ≤ z ∧ z ≤ 131072) hb (i := k) (by omega)
 refine ⟨by simp [h1], ?_, fun i hi hi2 => ?_, fun i hi hi2 => ?_⟩
 ·rw [dV_set _ _ _ (by omega), h2, h3 k (q102 _) hk, zcq _ _ (by omega)]
  grind
 ·rw [zag (by omega)]
  exact h3 i (by omega) hi2
 ·by_cases e : i = k
  ·subst e
   rw [zal (by omega)]
   omega
  ·rw [zag (by omega)]
   exact h4 i (by omega) hi2
structure SubS (xs ys zs : List Int) (k : Nat) : Prop where
 len : zs.length = 16
 val : dV zs = dV xs - dV (ys.take k)
 high : ∀ i, k ≤ i → i < 16 → zs.getD i 0 = xs.getD i 0
 low : ∀ i, i < k → i < 16 → -262144 ≤ zs.getD i 0 ∧ zs.getD i 0 ≤ 262144
theorem SubS.step {xs ys zs : List Int} {k : Nat} (h : SubS xs ys zs k) (hk : k < 16) (ha : ∀ z ∈ xs, -131072 ≤ z ∧ z ≤ 131072) (hb : ∀ z ∈ ys, -131072 ≤ z ∧ z ≤ 131072) (hla : xs.length = 16) (hlb : ys.length = 16) :
  SubS xs ys (zs.set k (xs.getD k 0 - ys.getD k 0)) (k + 1) := by
 obtain ⟨h1, h2, h3, h4⟩ := h
 have b1 := zcj (P := fun z => -131072 ≤ z ∧ z ≤ 131072) ha (i := k) (by omega)
 have b2 := zcj (P := fun z => -131072 ≤ z ∧ z ≤ 131072) hb (i := k) (by omega)
 refine ⟨by simp [h1], ?_, fun i hi hi2 => ?_, fun i hi hi2 => ?_⟩
 ·rw [dV_set _ _ _ (by omega), h2, h3 k (q102 _) hk, zcq _ _ (by omega)]
  grind
 ·rw [zag (by omega)]
  exact h3 i (by omega) hi2
 ·by_cases e : i = k
  ·subst e
   rw [zal (by omega)]
   omega
  ·rw [zag (by omega)]
   exact h4 i (by omega) hi2
theorem rsub_any (u v : Value) (x y : Int) (w : World) (hu : IsEl u x) (hv : IsEl v y) :
  Calls Tryz.prog 80 #[u, v] w fun e w' => ∃ r, e = .returned r ∧ IsEl r (x - y) ∧ Below w.heap.size w w' := by
 obtain ⟨xs, rfl, la, ba, qa, va⟩ := hu
 obtain ⟨ys, rfl, lb, bb, qb, vb⟩ := hv
 have HA := jh ba
 have HB := jh bb
 have LA := jh la
 have LB := jh lb
 have VA := jh va
 have VB := jh vb
 have HBX := jh (boxes3 w (ints .i64 xs) (ints .i64 ys) (ints .i64 (List.replicate 16 0)) 68 68 68)
 clear ba bb la lb va vb
 go_enter Tryz.func80, Tryz.ntmps80
 go_wp2_with fail
 change Code.wp _ _ _ _ (((w.alloc (.cells (ints .i64 xs).toArray 68)).alloc (.cells (ints .i64 ys).toArray 68)).alloc (.cells (ints .i64 (List.replicate 16 0)).toArray 68))
 generalize ((w.alloc (.cells (ints .i64 xs).toArray 68)).alloc (.cells (ints .i64 ys).toArray 68)).alloc (.cells (ints .i64 (List.replicate 16 0)).toArray 68) = w0 at *
 obtain ⟨h1, h2, h3, h4⟩ := HBX.out
 obtain ⟨A, hA⟩ : ∃ A, A = w.heap.size := ⟨_, rfl⟩
 rw [← hA] at h1 h2 h3 ⊢
 have hA2 : w.heap.size ≤ A := by omega
 have H1 := jh h1
 have H2 := jh h2
 have H3 := jh h3
 have H4 := jh h4
 clear h1 h2 h3 h4 HBX hA
 go_loopw [5] (fun i wr => ∃ (k : Nat) (zs : List Int), k ≤ 16 ∧ i = .int .i64 k ∧ SubS xs ys zs k ∧ Blk wr A (ints .i64 zs) 68 ∧ Blk wr (A + 1) (ints .i64 ys) 68 ∧ Blk wr (A + 1 + 1) (ints .i64 (List.replicate 16 0)) 68 ∧ Below w.heap.size w wr) (fun i _ => 16 - (intOf i).toNat)
 case atStart => exact ⟨0, xs, by omega, rfl, ⟨LA.out, by simp [dV], fun i _ _ => rfl, fun i hi => by omega⟩, H1.out, H2.out, H3.out, H4.out⟩
 case round =>
  clear H1 H2 H3 H4
  obtain ⟨k, zs, hk, rfl, hin, hb1, hb2, hb3, hbel⟩ := hrel
  have i0' : (0 : Int) ≤ (k : Int) := Int.natCast_nonneg _
  have hl16 := hin.len
  by_cases hlt : k < 16
  ·have e1 := hb1.cell k
   rw [zan (by omega), hin.high k (q102 _) hlt] at e1
   have e2 := hb2.cell k
   rw [zan (by have := LB.out; omega)] at e2
   have fk := hb1.free k
   have i1 : (k : Int) < 16 := by omega
   have hst := hin.step hlt HA.out HB.out LA.out LB.out
   have b1 := zcj (P := fun z => -131072 ≤ z ∧ z ≤ 131072) HA.out (i := k) (by have := LA.out; omega)
   have b2 := zcj (P := fun z => -131072 ≤ z ∧ z ≤ 131072) HB.out (i := k) (by have := LB.out; omega)
   generalize xs.getD k 0 = a at *
   generalize ys.getD k 0 = b at *
   obtain ⟨b11, b12⟩ := b1
   obtain ⟨b21, b22⟩ := b2
   have W1 : Hid (wrap64 (a - b) = a - b) := jh (by rw [← IntWalk.i64_left]; exact IntWalk.i64_in _ (by omega))
   have HST := jh hst
   have HB1 := jh hb1
   have HB2 := jh hb2
   have HB3 := jh hb3
   have HBE := jh hbel
   clear hin hst hb1 hb2 hb3 hbel hl16
   go_wp2_with fail
   go_region
   go_wp2_with fail
   go_roundw
   case rel =>
    try rw [W1.out]
    refine ⟨k + 1, _, by omega, by go_num, HST.out, ?_, HB2.out.far (by simp) _, HB3.out.far (by simp; omega) _, (HBE.out.setCell (by simp; omega) _).drew⟩
    rw [← zbq]
    exact HB1.out.set k _
   case measure => simp [intOf]; omega
  ·have hk' : k = 16 := by omega
   subst hk'
   have hval := hin.val
   rw [q110 (by have := LB.out; omega)] at hval
   have hbd : ∀ z ∈ zs, -262144 ≤ z ∧ z ≤ 262144 := zeq (P := fun z => -262144 ≤ z ∧ z ≤ 262144) hl16 (fun i hi => hin.low i hi hi)
   have HB1 := jh hb1
   have HB3 := jh hb3
   have HBE := jh hbel
   have HVAL := jh hval
   have hi1 : Hid ((Tryz.prog.info? 68).map (·.size) = some (ints .i64 zs).length) := jh (by rw [zaa, hl16]; exact Tryz.arr68)
   have HC := jh (carry_any zs 262144 wr hl16 hbd (by omega) (by omega))
   clear hb1 hb2 hb3 hbel hin hl16 hval hbd
   go_wp2_with (refine zbh rfl _ _ rfl A rfl _ _ _ _ HB1.out q103 hi1.out ?_)
   refine HC.out.mono ?_
   rintro e w5 ⟨zs', rfl, hcz, hb5⟩
   have HB35 : Hid (Blk w5 (A + 1 + 1) (ints .i64 (List.replicate 16 0)) 68) := jh (HB3.out.same (hb5.block _ HB3.out.lt))
   have HBE5 := jh (HBE.out.trans (hb5.mono HBE.out.size))
   have hi2 : Hid ((Tryz.prog.info? 68).map (·.size) = some (ints .i64 zs').length) := jh (by rw [zaa, hcz.len]; exact Tryz.arr68)
   have hl2 : Hid ((ints .i64 zs').length = (ints .i64 (List.replicate 16 0)).length) := jh (by rw [zaa, zaa, hcz.len]; rfl)
   have HCZ := jh hcz
   clear hb5 hcz
   go_wp2_with (refine zbe rfl _ _ _ rfl (A + 1 + 1) _ rfl rfl _ _ HB35.out hl2.out hi2.out (zaj _ _) ?_; intro w6 hb6 hg6)
   obtain ⟨q1, q, q2⟩ := HCZ.out.el (by omega)
   refine bodyPost_ret (v := .agg (ints .i64 zs').toArray) (zbc (by rfl) _ (A + 1 + 1) _ _ _ _ (by rfl) hb6 q103 hi2.out) rfl ⟨_, rfl, ⟨zs', rfl, HCZ.out.len, q1, qa - qb + q, ?_⟩, HBE5.out.grown hg6 HBE5.out.size (fun r hr => by cases hr; omega)⟩
   rw [q2, HVAL.out, VA.out, VB.out]
   grind
structure MulS (xs ys T : List Int) (i k : Nat) : Prop where
 len : T.length = 31
 val : dV T = dV (xs.take i) * dV ys + xs.getD i 0 * dV (ys.take k) * 65536 ^ i
 bnd : ∀ j, j < 31 → -((16 * (i : Int) + k) * 17179869184) ≤ T.getD j 0 ∧ T.getD j 0 ≤ (16 * (i : Int) + k) * 17179869184
theorem prod_bound {a b : Int} (a1 : -131072 ≤ a) (a2 : a ≤ 131072) (b1 : -131072 ≤ b) (b2 : b ≤ 131072) : -17179869184 ≤ a * b ∧ a * b ≤ 17179869184 := by
 have h1 : (a + 131072) * (b + 131072) ≥ 0 := q151 (by omega) (by omega)
 have h2 : (131072 - a) * (131072 - b) ≥ 0 := q151 (by omega) (by omega)
 have h3 : (a + 131072) * (131072 - b) ≥ 0 := q151 (by omega) (by omega)
 have h4 : (131072 - a) * (b + 131072) ≥ 0 := q151 (by omega) (by omega)
 have e1 : (a + 131072) * (b + 131072) = a * b + 131072 * a + 131072 * b + 17179869184 := by grind
 have e2 : (131072 - a) * (131072 - b) = a * b - 131072 * a - 131072 * b + 17179869184 := by grind
 have e3 : (a + 131072) * (131072 - b) = -(a * b) + 131072 * a - 131072 * b + 17179869184 := by grind
 have e4 : (131072 - a) * (b + 131072) = -(a * b) - 131072 * a + 131072 * b + 17179869184 := by grind
 omega
theorem MulS.step {xs ys T : List Int} {i k : Nat} (h : MulS xs ys T i k) (hi : i < 16) (hk : k < 16) (ha : ∀ z ∈ xs, -131072 ≤ z ∧ z ≤ 131072) (hb : ∀ z ∈ ys, -131072 ≤ z ∧ z ≤ 131072) (hla : xs.length = 16) (hlb : ys.length = 16) :
  MulS xs ys (T.set (i + k) (T.getD (i + k) 0 + xs.getD i 0 * ys.getD k 0)) i (k + 1) := by
 obtain ⟨h1, h2, h3⟩ := h
 have b1 := zcj (P := fun z => -131072 ≤ z ∧ z ≤ 131072) ha (i := i) (by omega)
 have b2 := zcj (P := fun z => -131072 ≤ z ∧ z ≤ 131072) hb (i := k) (by omega)
 have hp := prod_bound b1.1 b1.2 b2.1 b2.2
 refine ⟨by simp [h1], ?_, fun j hj => ?_⟩
 ·rw [dV_set _ _ _ (by omega), h2, zcq _ _ (by omega), q135]
  grind
 ·have h4 := h3 j hj
  by_cases e : j = i + k
  ·subst e
   rw [zal (by omega)]
   omega
  ·rw [zag (by omega)]
   omega
theorem MulS.next {xs ys T : List Int} {i : Nat} (h : MulS xs ys T i 16) (hi : i < 16) (hla : xs.length = 16) (hlb : ys.length = 16) : MulS xs ys T (i + 1) 0 := by
 obtain ⟨h1, h2, h3⟩ := h
 refine ⟨h1, ?_, fun j hj => ?_⟩
 ·rw [h2, zcq xs i (by omega), q110 (l := ys) (by omega)]
  simp only [List.take_zero, dV]
  grind
 ·have := h3 j hj
  omega
theorem MulS.start {xs ys : List Int} : MulS xs ys (List.replicate 31 0) 0 0 := by
 refine ⟨rfl, ?_, fun j hj => ?_⟩
 ·simp [dV, List.replicate]
 ·have : (List.replicate 31 (0 : Int)).getD j 0 = 0 := by rw [List.getD_eq_getElem?_getD, List.getElem?_replicate]; split <;> rfl
  rw [this]
  omega
structure OutS (T o : List Int) (i : Nat) : Prop where
 len : o.length = 16
 low : ∀ j, j < i → j < 16 → o.getD j 0 = if j < 15 then T.getD j 0 + 38 * T.getD (j + 16) 0 else T.getD j 0
theorem dV_append : ∀ (xs ys : List Int), dV (xs ++ ys) = dV xs + 65536 ^ xs.length * dV ys
 | [], ys => by simp [dV]
 | a :: r, ys => by
  have := dV_append r ys
  simp only [q170, dV, this, q126, q122]
  grind
theorem OutS.fold {T o : List Int} (h : OutS T o 16) (hT : T.length = 31) : dV o = dV (T.take 16) + 38 * dV (T.drop 16) := by
 obtain ⟨h1, h2⟩ := h
 have hd : T.drop 16 = [T.getD 16 0, T.getD 17 0, T.getD 18 0, T.getD 19 0, T.getD 20 0, T.getD 21 0, T.getD 22 0, T.getD 23 0, T.getD 24 0, T.getD 25 0, T.getD 26 0, T.getD 27 0, T.getD 28 0, T.getD 29 0, T.getD 30 0] := by
  match T, hT with
  | [_, _, _, _, _, _, _, _, _, _, _, _, _, _, _, _, _, _, _, _, _, _, _, _, _, _, _, _, _, _, _], _ => rfl
 have ht : T.take 16 = [T.getD 0 0, T.getD 1 0, T.getD 2 0, T.getD 3 0, T.getD 4 0, T.getD 5 0, T.getD 6 0, T.getD 7 0, T.getD 8 0, T.getD 9 0, T.getD 10 0, T.getD 11 0, T.getD 12 0, T.getD 13 0, T.getD 14 0, T.getD 15 0] := by
  match T, hT with
  | [_, _, _, _, _, _, _, _, _, _, _, _, _, _, _, _, _, _, _, _, _, _, _, _, _, _, _, _, _, _, _], _ => rfl
 rw [hd, ht, list16 o h1]
 simp only [h2 0 (by omega) (by omega), h2 1 (by omega) (by omega), h2 2 (by omega) (by omega), h2 3 (by omega) (by omega), h2 4 (by omega) (by omega), h2 5 (by omega) (by omega), h2 6 (by omega) (by omega), h2 7 (by omega) (by omega), h2 8 (by omega) (by omega), h2 9 (by omega) (by omega), h2 10 (by omega) (by omega), h2 11 (by omega) (by omega), h2 12 (by omega) (by omega), h2 13 (by omega) (by omega), h2 14 (by omega) (by omega), h2 15 (by omega) (by omega)]
 simp only [Nat.reduceLT, if_true, if_false, Nat.reduceAdd, dV]
 omega
theorem OutS.done {T o : List Int} (h : OutS T o 16) (hT : T.length = 31) : dV o = dV T - 2 * pP * dV (T.drop 16) := by
 have hp : 2 * pP = bigM - 38 := by rw [bigM_p]; omega
 have e : dV T = dV (T.take 16) + bigM * dV (T.drop 16) := by
  have := dV_append (T.take 16) (T.drop 16)
  rw [q117, q112, show min 16 T.length = 16 from by omega] at this
  exact this
 rw [hp, h.fold hT, e]
 grind
theorem CZ.sharp {zs zs' : List Int} {B E : Int} (h : CZ zs zs' B) (hE : E ≤ 1152921504606846976) (hE0 : 0 ≤ E) (h1 : -E ≤ dV zs) (h2 : dV zs ≤ bigM + E) : ∀ z ∈ zs', -38 ≤ z ∧ z ≤ 65573 := by
 obtain ⟨hl, ⟨c, c1, c2, c3, c4, c5⟩, h3⟩ := h
 have hc : -1 ≤ c ∧ c ≤ 1 := by
  have e := list16 zs' hl
  have l1 := h3 1 (by omega) (by omega)
  have l2 := h3 2 (by omega) (by omega)
  have l3 := h3 3 (by omega) (by omega)
  have l4 := h3 4 (by omega) (by omega)
  have l5 := h3 5 (by omega) (by omega)
  have l6 := h3 6 (by omega) (by omega)
  have l7 := h3 7 (by omega) (by omega)
  have l8 := h3 8 (by omega) (by omega)
  have l9 := h3 9 (by omega) (by omega)
  have l10 := h3 10 (by omega) (by omega)
  have l11 := h3 11 (by omega) (by omega)
  have l12 := h3 12 (by omega) (by omega)
  have l13 := h3 13 (by omega) (by omega)
  have l14 := h3 14 (by omega) (by omega)
  have l15 := h3 15 (by omega) (by omega)
  have hv : 0 ≤ dV zs' - 38 * c ∧ dV zs' - 38 * c < bigM := by
   have hM : bigM = 115792089237316195423570985008687907853269984665640564039457584007913129639936 := by decide +kernel
   rw [hM, e]
   simp only [dV]
   omega
  have hM : bigM = 115792089237316195423570985008687907853269984665640564039457584007913129639936 := by decide +kernel
  rw [c3, hM] at hv
  rw [hM] at h2
  omega
 refine zeq (P := fun z => -38 ≤ z ∧ z ≤ 65573) hl (fun i hi => ?_)
 rcases q150 i with rfl | h0
 ·omega
 ·have := h3 i h0 hi
  omega
theorem CZ.near {zs zs' : List Int} {B : Int} (h : CZ zs zs' B) (hB0 : 0 ≤ B) : -(38 * (B / 32768 + 2)) ≤ dV zs' ∧ dV zs' ≤ bigM + 38 * (B / 32768 + 2) := by
 obtain ⟨hl, ⟨c, c1, c2, c3, c4, c5⟩, h3⟩ := h
 have e := list16 zs' hl
 have l1 := h3 1 (by omega) (by omega)
 have l2 := h3 2 (by omega) (by omega)
 have l3 := h3 3 (by omega) (by omega)
 have l4 := h3 4 (by omega) (by omega)
 have l5 := h3 5 (by omega) (by omega)
 have l6 := h3 6 (by omega) (by omega)
 have l7 := h3 7 (by omega) (by omega)
 have l8 := h3 8 (by omega) (by omega)
 have l9 := h3 9 (by omega) (by omega)
 have l10 := h3 10 (by omega) (by omega)
 have l11 := h3 11 (by omega) (by omega)
 have l12 := h3 12 (by omega) (by omega)
 have l13 := h3 13 (by omega) (by omega)
 have l14 := h3 14 (by omega) (by omega)
 have l15 := h3 15 (by omega) (by omega)
 have hM : bigM = 115792089237316195423570985008687907853269984665640564039457584007913129639936 := by decide +kernel
 have hv : 0 ≤ dV zs' - 38 * c ∧ dV zs' - 38 * c < 115792089237316195423570985008687907853269984665640564039457584007913129639936 := by
  rw [e]
  simp only [dV]
  omega
 rw [hM]
 generalize B / 32768 = b at *
 omega
theorem rone_el (n : Int) (w : World) (h1 : -131072 ≤ n) (h2 : n ≤ 131072) :
  Calls Tryz.prog 72 #[.int .i64 n] w fun e w' => ∃ r, e = .returned r ∧ IsEl r n ∧ Below w.heap.size w w' := by
 have HBX := jh (boxes2 w (ints .i64 (List.replicate 16 0)) (ints .i64 (List.replicate 16 0)) 68 68)
 go_enter Tryz.func72, Tryz.ntmps72
 go_wp2_with (fail)
 refine bodyPost_ret (v := .agg (ints .i64 [n, 0, 0, 0, 0, 0, 0, 0, 0, 0, 0, 0, 0, 0, 0, 0]).toArray) ?_ rfl ⟨_, rfl, ⟨[n, 0, 0, 0, 0, 0, 0, 0, 0, 0, 0, 0, 0, 0, 0, 0], rfl, rfl, fun z hz => ?_, 0, by simp [dV]⟩, ?_⟩
 ·exact zbc (by rfl) _ w.heap.size _ _ _ _ (by rfl) ((Blk.made w (ints .i64 [n, 0, 0, 0, 0, 0, 0, 0, 0, 0, 0, 0, 0, 0, 0, 0]) 68).alloc _) q103 Tryz.arr68
 ·simp at hz
  omega
 ·exact ((Below.refl _ _).alloc (q102 _) _).alloc (by simp) _
theorem bound_i64 {z : Int} {i k : Nat} (hi : i ≤ 16) (hk : k ≤ 16) (h : -((16 * (i : Int) + k) * 17179869184) ≤ z ∧ z ≤ (16 * (i : Int) + k) * 17179869184) : -4672924418048 ≤ z ∧ z ≤ 4672924418048 := by omega
theorem OutS.step1 {T o : List Int} {i : Nat} (h : OutS T o i) (hi : i < 15) : OutS T ((o.set i (T.getD i 0)).set i (T.getD i 0 + 38 * T.getD (i + 16) 0)) (i + 1) := by
 obtain ⟨h1, h2⟩ := h
 refine ⟨by simp [h1], fun j hj hj2 => ?_⟩
 by_cases e : j = i
 ·subst e
  rw [zal (by simp; omega), if_pos hi]
 ·rw [zag (by omega), zag (by omega)]
  exact h2 j (by omega) hj2
theorem OutS.step2 {T o : List Int} (h : OutS T o 15) : OutS T (o.set 15 (T.getD 15 0)) 16 := by
 obtain ⟨h1, h2⟩ := h
 refine ⟨by simp [h1], fun j hj hj2 => ?_⟩
 by_cases e : j = 15
 ·subst e
  rw [zal (by omega), if_neg (by omega)]
 ·rw [zag (by omega)]
  exact h2 j (by omega) hj2
theorem OutS.bnd {T o : List Int} (h : OutS T o 16) (hT : ∀ j, j < 31 → -4672924418048 ≤ T.getD j 0 ∧ T.getD j 0 ≤ 4672924418048) : ∀ z ∈ o, -281474976710656 ≤ z ∧ z ≤ 281474976710656 := by
 refine zeq (P := fun z => -281474976710656 ≤ z ∧ z ≤ 281474976710656) h.len (fun i hi => ?_)
 rw [h.low i hi hi]
 have h1 := hT i (by omega)
 split
 ·have h2 := hT (i + 16) (by omega)
  omega
 ·omega
theorem rmul_any (u v : Value) (x y : Int) (w : World) (hu : IsEl u x) (hv : IsEl v y) :
  Calls Tryz.prog 69 #[u, v] w fun e w' => ∃ r, e = .returned r ∧ IsEl r (x * y) ∧ Below w.heap.size w w' := by
 obtain ⟨xs, rfl, la, ba, qa, va⟩ := hu
 obtain ⟨ys, rfl, lb, bb, qb, vb⟩ := hv
 have HA := jh ba
 have HB := jh bb
 have LA := jh la
 have LB := jh lb
 have VA := jh va
 have VB := jh vb
 have HBX := jh (boxes4 w (ints .i64 xs) (ints .i64 ys) (ints .i64 (List.replicate 16 0)) (ints .i64 (List.replicate 31 0)) 68 68 68 141)
 clear ba bb la lb va vb
 go_enter Tryz.func69, Tryz.ntmps69
 go_wp2_with fail
 change Code.wp _ _ _ _ ((((w.alloc (.cells (ints .i64 xs).toArray 68)).alloc (.cells (ints .i64 ys).toArray 68)).alloc (.cells (ints .i64 (List.replicate 16 0)).toArray 68)).alloc (.cells (ints .i64 (List.replicate 31 0)).toArray 141))
 generalize (((w.alloc (.cells (ints .i64 xs).toArray 68)).alloc (.cells (ints .i64 ys).toArray 68)).alloc (.cells (ints .i64 (List.replicate 16 0)).toArray 68)).alloc (.cells (ints .i64 (List.replicate 31 0)).toArray 141) = w0 at *
 obtain ⟨h1, h2, h3, h4, h5⟩ := HBX.out
 obtain ⟨A, hA⟩ : ∃ A, A = w.heap.size := ⟨_, rfl⟩
 rw [← hA] at h1 h2 h3 h4 ⊢
 have hA2 : w.heap.size ≤ A := by omega
 have H1 := jh h1
 have H2 := jh h2
 have H3 := jh h3
 have H4 := jh h4
 have H5 := jh h5
 clear h1 h2 h3 h4 h5 HBX hA
 go_loopw [6] (fun i wr => ∃ (k : Nat) (T : List Int), k ≤ 16 ∧ i = .int .i64 k ∧ MulS xs ys T k 0 ∧ Blk wr A (ints .i64 xs) 68 ∧ Blk wr (A + 1) (ints .i64 ys) 68 ∧ Blk wr (A + 1 + 1) (ints .i64 (List.replicate 16 0)) 68 ∧ Blk wr (A + 1 + 1 + 1) (ints .i64 T) 141 ∧ Below w.heap.size w wr) (fun i _ => 16 - (intOf i).toNat)
 case atStart => exact ⟨0, _, by omega, rfl, MulS.start, H1.out, H2.out, H3.out, H4.out, H5.out⟩
 case round =>
  clear H1 H2 H3 H4 H5
  obtain ⟨i, T0, hi, rfl, hms0, hb1, hb2, hb3, hb4, hbel⟩ := hrel
  have i0' : (0 : Int) ≤ (i : Int) := Int.natCast_nonneg _
  by_cases hlt : i < 16
  ·have i1 : (i : Int) < 16 := by omega
   have H1 := jh hb1
   have H2 := jh hb2
   have H3 := jh hb3
   have H4 := jh hb4
   have H5 := jh hbel
   have H6 := jh hms0
   clear hb1 hb2 hb3 hb4 hbel hms0
   go_wp2_with fail
   obtain ⟨wo, rfl⟩ : ∃ wo : World, wo = wr := ⟨_, rfl⟩
   go_loopw [7] (fun j wr => ∃ (k : Nat) (T : List Int), k ≤ 16 ∧ j = .int .i64 k ∧ MulS xs ys T i k ∧ Blk wr A (ints .i64 xs) 68 ∧ Blk wr (A + 1) (ints .i64 ys) 68 ∧ Blk wr (A + 1 + 1) (ints .i64 (List.replicate 16 0)) 68 ∧ Blk wr (A + 1 + 1 + 1) (ints .i64 T) 141 ∧ Below w.heap.size w wr) (fun j _ => 16 - (intOf j).toNat)
   case atStart => exact ⟨0, T0, by omega, rfl, H6.out, H1.out, H2.out, H3.out, H4.out, H5.out⟩
   case round =>
    clear H1 H2 H3 H4 H5 H6
    obtain ⟨k, T, hk, rfl, hms, hb1, hb2, hb3, hb4, hbel⟩ := hrel
    have j0' : (0 : Int) ≤ (k : Int) := Int.natCast_nonneg _
    by_cases hlt2 : k < 16
    ·have j1 : (k : Int) < 16 := by omega
     have e1 := hb1.cell i
     rw [zan (by have := LA.out; omega)] at e1
     have e2 := hb2.cell k
     rw [zan (by have := LB.out; omega)] at e2
     have e3 := hb4.cell (i + k)
     rw [zan (by have := hms.len; omega)] at e3
     have f3 := hb4.free (i + k)
     have hst := hms.step hlt hlt2 HA.out HB.out LA.out LB.out
     have b1 := zcj (P := fun z => -131072 ≤ z ∧ z ≤ 131072) HA.out (i := i) (by have := LA.out; omega)
     have b2 := zcj (P := fun z => -131072 ≤ z ∧ z ≤ 131072) HB.out (i := k) (by have := LB.out; omega)
     have b3 := bound_i64 (by omega) (by omega) (hms.bnd (i + k) (by omega))
     have b4 := prod_bound b1.1 b1.2 b2.1 b2.2
     generalize xs.getD i 0 = a at *
     generalize ys.getD k 0 = b at *
     generalize T.getD (i + k) 0 = t at *
     obtain ⟨b31, b32⟩ := b3
     obtain ⟨b41, b42⟩ := b4
     have s1 : IntKind.i64.wrap ((i : Int) + (k : Int)) = (i : Int) + k := IntWalk.i64_in _ (by omega)
     have s2 : ((i : Int) + (k : Int)).toNat = i + k := by omega
     have s3 : (0 : Int) ≤ (i : Int) + (k : Int) := by omega
     have s4 : (i : Int) + (k : Int) < 31 := by omega
     have W1 : Hid (wrap64 (a * b) = a * b) := jh (by rw [← IntWalk.i64_left]; exact IntWalk.i64_in _ (by omega))
     have W2 : Hid (wrap64 (t + a * b) = t + a * b) := jh (by rw [← IntWalk.i64_left]; exact IntWalk.i64_in _ (by omega))
     have HST := jh hst
     have H1 := jh hb1
     have H2 := jh hb2
     have H3 := jh hb3
     have H4 := jh hb4
     have H5 := jh hbel
     clear hb1 hb2 hb3 hb4 hbel hst hms b1 b2 b31 b32 b41 b42
     go_wp2_with fail
     go_region
     go_wp2_with fail
     go_roundw
     case rel =>
      rw [W1.out, W2.out]
      refine ⟨k + 1, _, by omega, by go_num, HST.out, H1.out.far (by simp; omega) _, H2.out.far (by simp; omega) _, H3.out.far (by simp) _, ?_, (H5.out.setCell (by simp; omega) _).drew⟩
      rw [← zbq]
      exact H4.out.set (i + k) _
     case measure => simp [intOf]; omega
    ·have hk' : k = 16 := by omega
     subst hk'
     have hnx := hms.next hlt LA.out LB.out
     have H1 := jh hb1
     have H2 := jh hb2
     have H3 := jh hb3
     have H4 := jh hb4
     have H5 := jh hbel
     have HNX := jh hnx
     clear hb1 hb2 hb3 hb4 hbel hms hnx
     go_wp2_with fail
     go_roundw
     case rel => exact ⟨i + 1, T, by omega, by go_num, HNX.out, H1.out, H2.out, H3.out, H4.out, H5.out⟩
     case measure => simp [intOf]; omega
  ·have hi' : i = 16 := by omega
   subst hi'
   have hT31 := hms0.len
   have hTb : ∀ j, j < 31 → -4672924418048 ≤ T0.getD j 0 ∧ T0.getD j 0 ≤ 4672924418048 := fun j hj => bound_i64 (i := 16) (k := 0) (by omega) (by omega) (hms0.bnd j hj)
   have hTv := hms0.val
   rw [q110 (l := xs) (by have := LA.out; omega), List.take_zero] at hTv
   simp only [dV, Int.mul_zero, Int.zero_mul, Int.add_zero] at hTv
   have HT31 := jh hT31
   have HTB := jh hTb
   have HTV := jh hTv
   obtain ⟨O, hO⟩ : ∃ O, O = wr.heap.size := ⟨_, rfl⟩
   have hO4 : A + 1 + 1 + 1 < O := by have := hb4.lt; omega
   have HO0 := jh (Blk.made wr (ints .i64 (List.replicate 16 0)) 68)
   rw [← hO] at HO0
   have H3 := jh (hb3.alloc (.cells (ints .i64 (List.replicate 16 0)).toArray 68))
   have H4 := jh (hb4.alloc (.cells (ints .i64 (List.replicate 16 0)).toArray 68))
   have H5 := jh (hbel.alloc hbel.size (.cells (ints .i64 (List.replicate 16 0)).toArray 68))
   clear hb1 hb2 hb3 hb4 hbel hms0 hT31 hTb hTv
   go_wp2_with fail
   rw [← hO]
   change Code.wp _ _ _ _ (wr.alloc (.cells (ints .i64 (List.replicate 16 0)).toArray 68))
   generalize wr.alloc (.cells (ints .i64 (List.replicate 16 0)).toArray 68) = w2 at *
   clear hO
   obtain ⟨wo, rfl⟩ : ∃ wo : World, wo = wr := ⟨_, rfl⟩
   go_loopw [9] (fun j wr => ∃ (k : Nat) (o : List Int), k ≤ 16 ∧ j = .int .i64 k ∧ OutS T0 o k ∧ Blk wr (A + 1 + 1) (ints .i64 (List.replicate 16 0)) 68 ∧ Blk wr (A + 1 + 1 + 1) (ints .i64 T0) 141 ∧ Blk wr O (ints .i64 o) 68 ∧ Below w.heap.size w wr) (fun j _ => 16 - (intOf j).toNat)
   case atStart => exact ⟨0, _, by omega, rfl, ⟨rfl, fun j hj => by omega⟩, H3.out, H4.out, HO0.out, H5.out⟩
   case round =>
    clear H3 H4 H5 HO0
    obtain ⟨k, o, hk, rfl, hos, hb3, hb4, hbo, hbel⟩ := hrel
    have j0' : (0 : Int) ≤ (k : Int) := Int.natCast_nonneg _
    have ho16 := hos.len
    by_cases hlt2 : k < 16
    ·have j1 : (k : Int) < 16 := by omega
     have e1 := hb4.cell k
     rw [zan (by have := HT31.out; omega)] at e1
     have e2 := hbo.cell k
     rw [zan (by omega)] at e2
     have f2 := hbo.free k
     have b1 := HTB.out k (by omega)
     by_cases h15 : k < 15
     ·have e3 := hb4.cell (k + 16)
      rw [zan (by have := HT31.out; omega)] at e3
      have b2 := HTB.out (k + 16) (by omega)
      have hst := hos.step1 h15
      generalize T0.getD k 0 = a at *
      generalize T0.getD (k + 16) 0 = b at *
      obtain ⟨b11, b12⟩ := b1
      obtain ⟨b21, b22⟩ := b2
      have s1 : IntKind.i64.wrap ((k : Int) + 16) = (k : Int) + 16 := IntWalk.i64_in _ (by omega)
      have s2 : ((k : Int) + 16).toNat = k + 16 := by omega
      have s3 : (0 : Int) ≤ (k : Int) + 16 := by omega
      have s4 : (k : Int) + 16 < 31 := by omega
      have j2 : (k : Int) < 15 := by omega
      have W1 : Hid (wrap64 (38 * b) = 38 * b) := jh (by rw [← IntWalk.i64_left]; exact IntWalk.i64_in _ (by omega))
      have W2 : Hid (wrap64 (a + 38 * b) = a + 38 * b) := jh (by rw [← IntWalk.i64_left]; exact IntWalk.i64_in _ (by omega))
      have HST := jh hst
      have H3 := jh hb3
      have H4 := jh hb4
      have H5 := jh hbel
      have HO := jh hbo
      clear hb3 hb4 hbo hbel hst hos b11 b12 b21 b22 ho16
      go_wp2_with fail
      go_region
      go_wp2_with fail
      go_roundw
      case rel =>
       rw [W1.out, W2.out]
       refine ⟨k + 1, _, by omega, by go_num, HST.out, (H3.out.far (by simp; omega) _).far (by simp; omega) _, (H4.out.far (by simp; omega) _).far (by simp; omega) _, ?_, ((H5.out.setCell (by simp; omega) _).setCell (by simp; omega) _).drew⟩
       rw [← zbq, ← zbq]
       exact (HO.out.set k _).set k _
      case measure => simp [intOf]; omega
     ·have hk15 : k = 15 := by omega
      subst hk15
      have hst := hos.step2
      generalize T0.getD 15 0 = a at *
      have HST := jh hst
      have H3 := jh hb3
      have H4 := jh hb4
      have H5 := jh hbel
      have HO := jh hbo
      clear hb3 hb4 hbo hbel hst hos b1 ho16
      go_wp2_with fail
      go_roundw
      case rel =>
       refine ⟨16, _, by omega, by go_num, HST.out, H3.out.far (by simp; omega) _, H4.out.far (by simp; omega) _, ?_, H5.out.setCell (by simp; omega) _⟩
       rw [← zbq]
       exact HO.out.set 15 _
      case measure => simp [intOf]
    ·have hk' : k = 16 := by omega
     subst hk'
     have hdone := hos.done HT31.out
     have hbd := hos.bnd HTB.out
     have H3 := jh hb3
     have H5 := jh hbel
     have HO := jh hbo
     have HD := jh hdone
     have hi1 : Hid ((Tryz.prog.info? 68).map (·.size) = some (ints .i64 o).length) := jh (by rw [zaa, ho16]; exact Tryz.arr68)
     have HC := jh (carry_any o 281474976710656 wr ho16 hbd (by omega) (by omega))
     clear hb3 hb4 hbo hbel hos ho16 hdone hbd
     go_wp2_with (refine zbh rfl _ _ rfl O rfl _ _ _ _ HO.out q103 hi1.out ?_)
     refine HC.out.mono ?_
     rintro e w5 ⟨z1, rfl, hz1, hb5⟩
     have hn1 := hz1.near (by omega)
     have hbz1 : ∀ z ∈ z1, -1099511627776 ≤ z ∧ z ≤ 1099511627776 := zeq (P := fun z => -1099511627776 ≤ z ∧ z ≤ 1099511627776) hz1.len (fun i hi => by
      obtain ⟨_, ⟨c, c1, c2, _, c4, c5⟩, h3⟩ := hz1
      rcases q150 i with rfl | h0
      ·omega
      ·have := h3 i h0 hi
       omega)
     have HC2 := jh (carry_any z1 1099511627776 w5 hz1.len hbz1 (by omega) (by omega))
     have H35 := jh (H3.out.same (hb5.block _ H3.out.lt))
     have H55 := jh (H5.out.trans (hb5.mono H5.out.size))
     have HZ1 := jh hz1
     have HN1 := jh hn1
     clear hb5 hz1 hn1 hbz1
     go_wp2_with fail
     refine HC2.out.mono ?_
     rintro e w6 ⟨z2, rfl, hz2, hb6⟩
     have H36 := jh (H35.out.same (hb6.block _ H35.out.lt))
     have H56 := jh (H55.out.trans (hb6.mono H55.out.size))
     have hi2 : Hid ((Tryz.prog.info? 68).map (·.size) = some (ints .i64 z2).length) := jh (by rw [zaa, hz2.len]; exact Tryz.arr68)
     have hl2 : Hid ((ints .i64 z2).length = (ints .i64 (List.replicate 16 0)).length) := jh (by rw [zaa, zaa, hz2.len]; rfl)
     have HZ2 := jh hz2
     clear hb6 hz2
     go_wp2_with (refine zbe rfl _ _ _ rfl (A + 1 + 1) _ rfl rfl _ _ H36.out hl2.out hi2.out (zaj _ _) ?_; intro w7 hb7 hg7)
     obtain ⟨_, ⟨c1, _, _, v1, _, _⟩, _⟩ := HZ1.out
     obtain ⟨hlen2, ⟨c2, _, _, v2, _, _⟩, _⟩ := id HZ2.out
     refine bodyPost_ret (v := .agg (ints .i64 z2).toArray) (zbc (by rfl) _ (A + 1 + 1) _ _ _ _ (by rfl) hb7 q103 hi2.out) rfl ⟨_, rfl, ⟨z2, rfl, hlen2, fun z hz => ?_, qa * y + qb * x + qa * qb * pP - 2 * dV (T0.drop 16) - 2 * c1 - 2 * c2, ?_⟩, H56.out.grown hg7 H56.out.size (fun r hr => by cases hr; omega)⟩
     ·have := HZ2.out.sharp (E := 1152921504606846976) (by omega) (by omega) (by have := HN1.out.1; omega) (by have := HN1.out.2; omega) z hz
      omega
     ·rw [v2, v1, HD.out, HTV.out, VA.out, VB.out, bigM_p]
      grind
theorem bigM_lit : bigM = 115792089237316195423570985008687907853269984665640564039457584007913129639936 := by decide +kernel
theorem dV_range {zs : List Int} (hl : zs.length = 16) (h : ∀ i, i < 16 → 0 ≤ zs.getD i 0 ∧ zs.getD i 0 ≤ 65535) : 0 ≤ dV zs ∧ dV zs < bigM := by
 have l0 := h 0 (by omega)
 have l1 := h 1 (by omega)
 have l2 := h 2 (by omega)
 have l3 := h 3 (by omega)
 have l4 := h 4 (by omega)
 have l5 := h 5 (by omega)
 have l6 := h 6 (by omega)
 have l7 := h 7 (by omega)
 have l8 := h 8 (by omega)
 have l9 := h 9 (by omega)
 have l10 := h 10 (by omega)
 have l11 := h 11 (by omega)
 have l12 := h 12 (by omega)
 have l13 := h 13 (by omega)
 have l14 := h 14 (by omega)
 have l15 := h 15 (by omega)
 rw [list16 zs hl, bigM_lit]
 simp only [dV]
 omega
theorem CZ.inner {zs zs' : List Int} {B : Int} (h : CZ zs zs' B) : ∃ c, -(B / 32768 + 2) ≤ c ∧ c ≤ B / 32768 + 2 ∧ dV zs' = dV zs - (bigM - 38) * c ∧ 0 ≤ dV zs' - 38 * c ∧ dV zs' - 38 * c < bigM ∧ 0 ≤ zs'.getD 0 0 - 38 * c ∧ zs'.getD 0 0 - 38 * c ≤ 65535 := by
 obtain ⟨hl, ⟨c, c1, c2, c3, c4, c5⟩, h3⟩ := h
 have hr := dV_range (zs := zs'.set 0 (zs'.getD 0 0 - 38 * c)) (by simp [hl]) (fun i hi => by
  rcases q150 i with rfl | h0
  ·rw [zal (by omega)]
   exact ⟨c4, c5⟩
  ·rw [zag (by omega)]
   exact h3 i h0 hi)
 rw [dV_set _ _ _ (by omega)] at hr
 simp only [Int.pow_zero, Int.mul_one] at hr
 exact ⟨c, c1, c2, c3, by omega, by omega, c4, c5⟩
theorem CZ.second {zs zs' : List Int} {B E : Int} (h : CZ zs zs' B) (hE : E ≤ 1152921504606846976) (h1 : -E ≤ dV zs) (h2 : dV zs ≤ bigM + E) : 0 ≤ dV zs' ∧ dV zs' < bigM := by
 obtain ⟨c, c1, c2, c3, c4, c5, _, _⟩ := h.inner
 rw [c3] at c4 c5 ⊢
 rw [bigM_lit] at *
 omega
theorem CZ.tidy {zs zs' : List Int} {B : Int} (h : CZ zs zs' B) (h1 : 0 ≤ dV zs) (h2 : dV zs < bigM) : dV zs' = dV zs ∧ ∀ i, i < 16 → 0 ≤ zs'.getD i 0 ∧ zs'.getD i 0 ≤ 65535 := by
 obtain ⟨c, c1, c2, c3, c4, c5, c6, c7⟩ := h.inner
 have hc : c = 0 := by
  rw [c3] at c4 c5
  rw [bigM_lit] at *
  omega
 subst hc
 refine ⟨by rw [c3]; omega, fun i hi => ?_⟩
 rcases q150 i with rfl | h0
 ·omega
 ·exact h.low i h0 hi
def pL : List Int := [65517, 65535, 65535, 65535, 65535, 65535, 65535, 65535, 65535, 65535, 65535, 65535, 65535, 65535, 65535, 32767]
theorem dV_pL : dV pL = pP := by decide +kernel
theorem dV_take_set {zs : List Int} {i k : Nat} {z : Int} (hi : i < k) (hk : k ≤ zs.length) : dV ((zs.set i z).take k) = dV (zs.take k) + (z - zs.getD i 0) * 65536 ^ i := by
 rw [List.take_set, dV_set _ _ _ (by simp; omega)]
 congr 3
 simp [List.getD, hi]
theorem dV_take_far {zs : List Int} {i k : Nat} {z : Int} (hi : k ≤ i) : dV ((zs.set i z).take k) = dV (zs.take k) := by
 rw [List.take_set]
 rw [List.set_eq_of_length_le (by simp; omega)]
theorem and1 {t : Int} (h : t = -1 ∨ t = 0) : bits .and .i64 t 1 = -t := by
 rcases h with rfl | rfl <;> decide
theorem and16 (n : Int) : bits .and .i64 n 65535 = n % 65536 := by
 have h : (BitVec.ofInt 64 65535).toNat = 2 ^ 16 - 1 := by decide
 have key : (BitVec.ofInt 64 n &&& BitVec.ofInt 64 65535).toNat = (n % ((2 ^ 64 : Nat) : Int)).toNat % 2 ^ 16 := by
  rw [BitVec.toNat_and, BitVec.toNat_ofInt, h, q145]
 show IntKind.i64.wrap ((BitVec.ofInt 64 n &&& BitVec.ofInt 64 65535).toNat : Nat) = n % 65536
 rw [key, IntKind.wrap_i64]
 omega
theorem and8 (n : Int) : bits .and .i64 n 255 = n % 256 := by
 have h255 : (BitVec.ofInt 64 255).toNat = 2 ^ 8 - 1 := by decide
 have key : (BitVec.ofInt 64 n &&& BitVec.ofInt 64 255).toNat = (n % ((2 ^ 64 : Nat) : Int)).toNat % 2 ^ 8 := by
  rw [BitVec.toNat_and, BitVec.toNat_ofInt, h255, q145]
 show IntKind.i64.wrap ((BitVec.ofInt 64 n &&& BitVec.ofInt 64 255).toNat : Nat) = n % 256
 rw [key, IntKind.wrap_i64]
 omega
structure SubP (a m : List Int) (i : Nat) : Prop where
 len : m.length = 16
 val : dV (m.take (i + 1)) = dV (a.take (i + 1)) - dV (pL.take (i + 1))
 low : ∀ j, j < i → 0 ≤ m.getD j 0 ∧ m.getD j 0 ≤ 65535
 top : -65536 ≤ m.getD i 0 ∧ m.getD i 0 ≤ 65535
theorem SubP.start {a m : List Int} (hm : m.length = 16) (ha : a.length = 16) (h0 : 0 ≤ a.getD 0 0 ∧ a.getD 0 0 ≤ 65535) : SubP a (m.set 0 (a.getD 0 0 - 65517)) 0 := by
 refine ⟨by simp [hm], ?_, fun j hj => by omega, ?_⟩
 ·rw [dV_take_set (by omega) (by omega), zcq m 0 (by omega), zcq a 0 (by omega)]
  simp only [List.take_zero, pL, List.take_succ_cons, dV]
  omega
 ·rw [zal (by omega)]
  omega
theorem SubP.step {a m : List Int} {i : Nat} {P : Int} (h : SubP a m i) (hi : i < 15) (ha : a.length = 16) (h1 : 0 ≤ a.getD (i + 1) 0 ∧ a.getD (i + 1) 0 ≤ 65535) (hP : pL.getD (i + 1) 0 = P) (hP0 : 0 ≤ P) (hP1 : P ≤ 65535) :
  SubP a ((m.set (i + 1) (a.getD (i + 1) 0 - P - bits .and .i64 (m.getD i 0 / 65536) 1)).set i (bits .and .i64 (m.getD i 0) 65535)) (i + 1) := by
 obtain ⟨hl, h2, h3, h4⟩ := h
 have hp : pL.length = 16 := rfl
 rw [and16, and1 (by omega)]
 refine ⟨by simp [hl], ?_, fun j hj => ?_, ?_⟩
 ·rw [dV_take_set (by omega) (by simp; omega), zag (by omega), zcq _ (i + 1) (by simp; omega), dV_take_far (by omega), zal (by omega), h2, zcq a (i + 1) (by omega), zcq pL (i + 1) (by omega), hP, q122]
  have e : m.getD i 0 % 65536 = m.getD i 0 - m.getD i 0 / 65536 * 65536 := by omega
  rw [e]
  generalize (65536 : Int) ^ i = X
  grind
 ·by_cases e : j = i
  ·subst e
   rw [zal (by simp; omega)]
   omega
  ·rw [zag (by omega), zag (by omega)]
   exact h3 j (by omega)
 ·rw [zag (by omega), zal (by omega)]
  omega
theorem SubP.done {a m : List Int} (h : SubP a m 15) (ha : a.length = 16) : dV m = dV a - pP ∧ (0 ≤ m.getD 15 0 ↔ pP ≤ dV a) ∧ (0 ≤ m.getD 15 0 → ∀ i, i < 16 → 0 ≤ m.getD i 0 ∧ m.getD i 0 ≤ 65535) := by
 obtain ⟨hl, h2, h3, h4⟩ := h
 rw [q110 (by omega), q110 (by omega), q110 (by simp [pL]), dV_pL] at h2
 refine ⟨h2, ?_, fun h i hi => ?_⟩
 ·have e := list16 m hl
  have l0 := h3 0 (by omega)
  have l1 := h3 1 (by omega)
  have l2 := h3 2 (by omega)
  have l3 := h3 3 (by omega)
  have l4 := h3 4 (by omega)
  have l5 := h3 5 (by omega)
  have l6 := h3 6 (by omega)
  have l7 := h3 7 (by omega)
  have l8 := h3 8 (by omega)
  have l9 := h3 9 (by omega)
  have l10 := h3 10 (by omega)
  have l11 := h3 11 (by omega)
  have l12 := h3 12 (by omega)
  have l13 := h3 13 (by omega)
  have l14 := h3 14 (by omega)
  have hv : dV m = dV a - pP := h2
  rw [e] at hv
  simp only [dV] at hv
  generalize dV a = V at *
  generalize pP = p at *
  constructor <;> intro h <;> omega
 ·rcases q116 i 15 with h5 | h5
  ·exact h3 i h5
  ·obtain rfl : i = 15 := by omega
   omega
def bndK (k : Nat) : Int := if k = 0 then bigM else if k = 1 then pP + 38 else pP
structure OutR (x : Int) (zs : List Int) (k : Nat) : Prop where
 len : zs.length = 16
 dig : ∀ i, i < 16 → 0 ≤ zs.getD i 0 ∧ zs.getD i 0 ≤ 65535
 val : ∃ q, dV zs = x + pP * q
 bnd : 0 ≤ dV zs ∧ dV zs < bndK k
theorem OutR.keep {x : Int} {zs : List Int} {k : Nat} (h : OutR x zs k) (hk : k < 3) (hp : ¬ pP ≤ dV zs) : OutR x zs (k + 1) := by
 obtain ⟨h1, h2, h3, h4, h5⟩ := h
 refine ⟨h1, h2, h3, h4, ?_⟩
 have hp0 : (0 : Int) < pP := by decide +kernel
 unfold bndK
 rw [if_neg (by omega)]
 split <;> omega
theorem OutR.less {x : Int} {zs ms : List Int} {k : Nat} (h : OutR x zs k) (hk : k < 3) (hm : ms.length = 16) (hd : ∀ i, i < 16 → 0 ≤ ms.getD i 0 ∧ ms.getD i 0 ≤ 65535) (hv : dV ms = dV zs - pP) (hp : pP ≤ dV zs) : OutR x ms (k + 1) := by
 obtain ⟨h1, h2, ⟨q, h3⟩, h4, h5⟩ := h
 refine ⟨hm, hd, ⟨q - 1, by rw [hv, h3]; grind⟩, by omega, ?_⟩
 have hM := bigM_p
 have hp0 : (0 : Int) < pP := by decide +kernel
 unfold bndK at *
 rw [if_neg (by omega)]
 have hp38 : (38 : Int) < pP := by decide +kernel
 generalize pP = p at *
 generalize bigM = M at *
 rcases (by omega : k = 0 ∨ k = 1 ∨ k = 2) with rfl | rfl | rfl
 ·simp at *
  omega
 ·simp at *
  omega
 ·simp at *
  omega
theorem OutR.start {x qa : Int} {xs z1 z2 z3 z4 : List Int} (hv : dV xs = x + pP * qa) (h1 : CZ xs z1 131072) (h2 : CZ z1 z2 131072) (h3 : CZ z2 z3 131072) (h4 : CZ z3 z4 131072) : OutR x z4 0 := by
 obtain ⟨_, q1, e1⟩ := h1.el (by omega)
 obtain ⟨_, q2, e2⟩ := h2.el (by omega)
 have n1 := h1.near (by omega)
 have r2 := h2.second (E := 1152921504606846976) (by omega) (by have := n1.1; omega) (by have := n1.2; omega)
 obtain ⟨e3, _⟩ := h3.tidy r2.1 r2.2
 obtain ⟨e4, d4⟩ := h4.tidy (by rw [e3]; exact r2.1) (by rw [e3]; exact r2.2)
 refine ⟨h4.len, d4, ⟨qa + q1 + q2, ?_⟩, ?_⟩
 ·rw [e4, e3, e2, e1, hv]
  grind
 ·rw [e4, e3]
  exact r2
structure OutB (zs bs : List Int) (k : Nat) : Prop where
 len : bs.length = 32
 low : ∀ j, j < k → bs.getD (2 * j) 0 = zs.getD j 0 % 256 ∧ bs.getD (2 * j + 1) 0 = zs.getD j 0 / 256 % 256
theorem OutB.step {zs bs : List Int} {k : Nat} (h : OutB zs bs k) (hk : k < 16) : OutB zs ((bs.set (2 * k) (bits .and .i64 (zs.getD k 0) 255 % 256)).set (2 * k + 1) (bits .and .i64 (zs.getD k 0 / 256) 255 % 256)) (k + 1) := by
 obtain ⟨h1, h2⟩ := h
 refine ⟨by simp [h1], fun j hj => ?_⟩
 rw [and8, and8, Int.emod_emod, Int.emod_emod]
 by_cases e : j = k
 ·subst e
  rw [zag (by omega), zal (by omega), zal (by simp; omega)]
  exact ⟨rfl, rfl⟩
 ·rw [zag (by omega), zag (by omega), zag (by omega), zag (by omega)]
  exact h2 j (by omega)
theorem OutB.done {x : Int} {zs bs : List Int} (h : OutB zs bs 16) (hr : OutR x zs 3) : ints .u8 bs = (bytesN 32 (x % pP).toNat).map bval := by
 obtain ⟨h1, h2⟩ := h
 have hb : ∀ i, i < 32 → 0 ≤ bs.getD i 0 ∧ bs.getD i 0 ≤ 255 := fun i hi => by
  have := h2 (i / 2) (by omega)
  rcases (by omega : i = 2 * (i / 2) ∨ i = 2 * (i / 2) + 1) with e | e
  ·rw [e, this.1]
   omega
  ·rw [e, this.2]
   omega
 have hg : ∀ i, i < 32 → ((bs.map fun z => UInt8.ofNat z.toNat).getD i 0).toNat = (bs.getD i 0).toNat := fun i hi => by
  have := hb i hi
  have e : (bs.map fun z => UInt8.ofNat z.toNat).getD i 0 = UInt8.ofNat (bs.getD i 0).toNat := by simp [List.getD, show i < bs.length from by omega]
  rw [e, UInt8.toNat_ofNat']
  omega
 have hv : dV zs = leN (bs.map fun z => UInt8.ofNat z.toNat) := dV_pairs zs _ hr.len (by simp [h1]) (fun i hi => by
  unfold pairAt
  rw [hg _ (by omega), hg _ (by omega), (h2 i hi).1, (h2 i hi).2]
  have := hr.dig i hi
  omega)
 have hx : x % pP = dV zs := by
  obtain ⟨q, hq⟩ := hr.val
  have hb := hr.bnd
  have : bndK 3 = pP := rfl
  rw [this] at hb
  have e : x = dV zs + pP * (-q) := by rw [hq]; grind
  rw [e, Int.add_mul_emod_self_left]
  exact q171 hb.1 hb.2
 rw [hx, hv, Int.toNat_natCast]
 have := zfa (bs.map fun z => UInt8.ofNat z.toNat)
 rw [q101, h1] at this
 rw [this, List.map_map]
 unfold ints
 refine List.map_congr_left (fun z hz => ?_)
 have hz2 := (zeq (P := fun z => 0 ≤ z ∧ z ≤ 255) h1 hb) z hz
 simp only [Function.comp, bval]
 congr 1
 rw [UInt8.toNat_ofNat']
 omega
theorem rout_any (v : Value) (x : Int) (w : World) (hv : IsEl v x) :
  Calls Tryz.prog 68 #[v] w fun e w' => e = .returned (.agg ((bytesN 32 (x % pP).toNat).map bval).toArray) ∧ Below w.heap.size w w' := by
 obtain ⟨xs, rfl, la, ba, qa, va⟩ := hv
 have LA := jh la
 have VA := jh va
 have HBX := jh (boxes2 w (ints .i64 xs) (ints .u8 (List.replicate 32 0)) 68 23)
 have hi0 : Hid ((Tryz.prog.info? 68).map (·.size) = some (ints .i64 xs).length) := jh (by rw [zaa, la]; exact Tryz.arr68)
 have HC := jh (carry_any xs 131072 ((w.alloc (.cells (ints .i64 xs).toArray 68)).alloc (.cells (ints .u8 (List.replicate 32 0)).toArray 23)) la ba (by omega) (by omega))
 have BA := jh ba
 clear la ba va
 go_enter Tryz.func68, Tryz.ntmps68
 go_wp2_with (refine zbh rfl _ _ rfl w.heap.size rfl _ _ _ _ HBX.out.1 q103 hi0.out ?_)
 change Calls _ _ _ ((w.alloc (.cells (ints .i64 xs).toArray 68)).alloc (.cells (ints .u8 (List.replicate 32 0)).toArray 23)) _
 generalize (w.alloc (.cells (ints .i64 xs).toArray 68)).alloc (.cells (ints .u8 (List.replicate 32 0)).toArray 23) = w0 at *
 obtain ⟨h1, h2, h3⟩ := HBX.out
 obtain ⟨A, hA⟩ : ∃ A, A = w.heap.size := ⟨_, rfl⟩
 rw [← hA] at h1 h2 ⊢
 have hA2 : w.heap.size ≤ A := by omega
 have H1 := jh h1
 have H2 := jh h2
 have H3 := jh h3
 clear h1 h2 h3 HBX hA
 refine HC.out.mono ?_
 rintro e w1 ⟨z1, rfl, hz1, hb1⟩
 have HC1 := jh (carry_any z1 131072 w1 hz1.len (hz1.el (by omega)).1 (by omega) (by omega))
 have HZ1 := jh hz1
 have HB1 := jh hb1
 clear hz1 hb1
 go_wp2_with fail
 refine HC1.out.mono ?_
 rintro e w2 ⟨z2, rfl, hz2, hb2⟩
 have HC2 := jh (carry_any z2 131072 w2 hz2.len (hz2.el (by omega)).1 (by omega) (by omega))
 have HZ2 := jh hz2
 have HB2 := jh (HB1.out.trans (hb2.mono HB1.out.size))
 clear hz2 hb2
 go_wp2_with fail
 refine HC2.out.mono ?_
 rintro e w3 ⟨z3, rfl, hz3, hb3⟩
 have HC3 := jh (carry_any z3 131072 w3 hz3.len (hz3.el (by omega)).1 (by omega) (by omega))
 have HZ3 := jh hz3
 have HB3 := jh (HB2.out.trans (hb3.mono HB2.out.size))
 clear hz3 hb3
 go_wp2_with fail
 refine HC3.out.mono ?_
 rintro e w4 ⟨z4, rfl, hz4, hb4⟩
 have hbB := HB3.out.trans (hb4.mono HB3.out.size)
 have hOR := OutR.start VA.out HZ1.out HZ2.out HZ3.out hz4
 have H14 := jh (H1.out.same (hbB.block _ H1.out.lt))
 have H24 := jh (H2.out.same (hbB.block _ H2.out.lt))
 have H34 := jh (H3.out.trans (hbB.mono H3.out.size))
 have hi4 : Hid ((Tryz.prog.info? 68).map (·.size) = some (ints .i64 z4).length) := jh (by rw [zaa, hz4.len]; exact Tryz.arr68)
 have hl4 : Hid ((ints .i64 z4).length = (ints .i64 xs).length) := jh (by rw [zaa, zaa, hz4.len, LA.out])
 have HOR := jh hOR
 clear hz4 hb4 hbB hOR
 go_wp2_with (refine zbe rfl _ _ _ rfl A _ rfl rfl _ _ H14.out hl4.out hi4.out (zaj _ _) ?_; intro w5 hb5 hg5)
 have H15 := jh hb5
 have H25 := jh (H24.out.grown hg5 (by simp))
 have H35 := jh (H34.out.grown hg5 H34.out.size (fun r hr => by cases hr; omega))
 clear hb5 hg5
 go_loopw [3] (fun i wr => ∃ (k : Nat) (zs : List Int), k ≤ 3 ∧ i = .int .i64 k ∧ OutR x zs k ∧ Blk wr A (ints .i64 zs) 68 ∧ Blk wr (A + 1) (ints .u8 (List.replicate 32 0)) 23 ∧ Below w.heap.size w wr) (fun i _ => 3 - (intOf i).toNat)
 case atStart => exact ⟨0, z4, by omega, rfl, HOR.out, H15.out, H25.out, H35.out⟩
 case round =>
  clear H1 H2 H3 HC HB1 HB2 HB3 HZ1 HZ2 HZ3 H14 H24 H34 H15 H25 H35 HC1 HC2 HC3 hi4 hl4 HOR hi0 VA LA BA
  obtain ⟨k, zs, hk, rfl, hor, hb1, hb2, hbel⟩ := hrel
  have i0' : (0 : Int) ≤ (k : Int) := Int.natCast_nonneg _
  by_cases hlt : k < 3
  ·have i1 : (k : Int) < 3 := by omega
   obtain ⟨M, hM⟩ : ∃ M, M = wr.heap.size := ⟨_, rfl⟩
   have hMA : A + 1 < M := by have := hb2.lt; omega
   have hmk := Blk.made wr (ints .i64 ((List.replicate 16 0).set 0 (zs.getD 0 0 - 65517))) 68
   rw [← hM] at hmk
   have e0 : (wr.alloc (.cells #[.int .i64 0, .int .i64 0, .int .i64 0, .int .i64 0, .int .i64 0, .int .i64 0, .int .i64 0, .int .i64 0, .int .i64 0, .int .i64 0, .int .i64 0, .int .i64 0, .int .i64 0, .int .i64 0, .int .i64 0, .int .i64 0] 68)).cell? ⟨A, 0, none⟩ = some (.int .i64 (zs.getD 0 0)) := by
    have := (hb1.alloc (.cells (ints .i64 (List.replicate 16 0)).toArray 68)).cell 0
    rw [zan (by have := hor.len; omega)] at this
    exact this
   have d0 := hor.dig 0 (by omega)
   have hst := SubP.start (m := List.replicate 16 0) rfl hor.len d0
   have H1 := jh (hb1.alloc (.cells (ints .i64 ((List.replicate 16 0).set 0 (zs.getD 0 0 - 65517))).toArray 68))
   have H2 := jh (hb2.alloc (.cells (ints .i64 ((List.replicate 16 0).set 0 (zs.getD 0 0 - 65517))).toArray 68))
   have H3 := jh (hbel.alloc hbel.size (.cells (ints .i64 ((List.replicate 16 0).set 0 (zs.getD 0 0 - 65517))).toArray 68))
   have H4 := jh hmk
   have HST := jh hst
   have HOR := jh hor
   generalize zs.getD 0 0 = a0 at *
   clear hb1 hb2 hbel hmk hst hor
   go_wp2_with fail
   rw [← hM]
   change Code.wp _ _ _ _ (wr.alloc (.cells (ints .i64 ((List.replicate 16 0).set 0 (a0 - 65517))).toArray 68))
   generalize wr.alloc (.cells (ints .i64 ((List.replicate 16 0).set 0 (a0 - 65517))).toArray 68) = w6 at *
   clear hM e0 d0
   obtain ⟨wo, rfl⟩ : ∃ wo : World, wo = wr := ⟨_, rfl⟩
   go_loopw [5] (fun i wr => ∃ (j : Nat) (ms : List Int), j ≤ 14 ∧ i = .int .i64 ((j + 1 : Nat) : Int) ∧ SubP zs ms j ∧ Blk wr A (ints .i64 zs) 68 ∧ Blk wr (A + 1) (ints .u8 (List.replicate 32 0)) 23 ∧ Blk wr M (ints .i64 ms) 68 ∧ Below w.heap.size w wr) (fun i _ => 16 - (intOf i).toNat)
   case atStart => exact ⟨0, _, by omega, rfl, HST.out, H1.out, H2.out, H4.out, H3.out⟩
   case round =>
    clear H1 H2 H3 H4 HST
    obtain ⟨j, ms, hj, rfl, hsp, hb1, hb2, hbm, hbel⟩ := hrel
    have hz16 := HOR.out.len
    have hm16 := hsp.len
    have j0' : (0 : Int) ≤ (j : Int) := Int.natCast_nonneg _
    by_cases hlt2 : j < 14
    ·have e1 := hb1.cell (j + 1)
     rw [zan (by omega)] at e1
     have e2 := hbm.cell j
     rw [zan (by omega)] at e2
     have e3 := hbm.cell (j + 1)
     rw [zan (by omega)] at e3
     have f2 := hbm.free j
     have f3 := hbm.free (j + 1)
     have d1 := HOR.out.dig (j + 1) (by omega)
     have hpL : pL.getD (j + 1) 0 = 65535 := by
      have : ∀ j, j < 14 → pL.getD (j + 1) 0 = 65535 := by decide +kernel
      exact this j hlt2
     have hst := hsp.step (by omega) hz16 d1 hpL (by omega) (by omega)
     have ht := hsp.top
     generalize zs.getD (j + 1) 0 = a at *
     generalize ms.getD j 0 = m at *
     obtain ⟨d11, d12⟩ := d1
     obtain ⟨ht1, ht2⟩ := ht
     have s1 : IntKind.i64.wrap ((j : Int) + 1 - 1) = (j : Int) := IntWalk.i64_in _ (by omega) |>.trans (by omega)
     have s2 : ((j : Int) + 1 - 1) = (j : Int) := by omega
     have s3 : ((j : Int) + 1).toNat = j + 1 := by omega
     have s4 : (0 : Int) ≤ (j : Int) + 1 := by omega
     have s5 : (j : Int) + 1 < 16 := by omega
     have s6 : (j : Int) < 16 := by omega
     have hb01 : bits .and .i64 (m / 65536) 1 = -(m / 65536) := and1 (by omega)
     have W1 : Hid (wrap64 (a - 65535 - bits .and .i64 (m / 65536) 1) = a - 65535 - bits .and .i64 (m / 65536) 1) := jh (by rw [← IntWalk.i64_left]; exact IntWalk.i64_in _ (by rw [hb01]; omega))
     have HST := jh hst
     have H1 := jh hb1
     have H2 := jh hb2
     have H3 := jh hbel
     have H4 := jh hbm
     clear hb1 hb2 hbel hbm hst hsp hpL hz16 hm16 hb01
     go_wp2_with fail
     go_region
     go_wp2_with fail
     go_roundw
     case rel =>
      rw [W1.out]
      refine ⟨j + 1, _, by omega, by go_num, HST.out, (H1.out.far (by simp; omega) _).far (by simp; omega) _, (H2.out.far (by simp; omega) _).far (by simp; omega) _, ?_, ((H3.out.setCell (by simp; omega) _).setCell (by simp; omega) _).drew⟩
      rw [← zbq, ← zbq]
      exact (H4.out.set (j + 1) _).set j _
     case measure => simp [intOf]; omega
    ·have hj' : j = 14 := by omega
     subst hj'
     have e1 := hb1.cell 15
     rw [zan (by omega)] at e1
     have e2 := hbm.cell 14
     rw [zan (by omega)] at e2
     have e3 := hbm.cell 15
     rw [zan (by omega)] at e3
     have f2 := hbm.free 14
     have f3 := hbm.free 15
     have d1 := HOR.out.dig 15 (by omega)
     have hst := hsp.step (by omega) hz16 d1 (P := 32767) rfl (by omega) (by omega)
     have ht := hsp.top
     generalize zs.getD 15 0 = a at *
     generalize ms.getD 14 0 = m at *
     obtain ⟨d11, d12⟩ := d1
     obtain ⟨ht1, ht2⟩ := ht
     have hb01 : bits .and .i64 (m / 65536) 1 = -(m / 65536) := and1 (by omega)
     have b0 : 0 ≤ bits .and .i64 (m / 65536) 1 := by rw [hb01]; omega
     have b1 : bits .and .i64 (m / 65536) 1 ≤ 1 := by rw [hb01]; omega
     have hdone := hst.done hz16
     have hlen := hst.len
     have h15 : ((ms.set 15 (a - 32767 - bits .and .i64 (m / 65536) 1)).set 14 (bits .and .i64 m 65535)).getD 15 0 = a - 32767 - bits .and .i64 (m / 65536) 1 := by
      rw [zag (by omega), zal (by omega)]
     simp only [Nat.reduceAdd] at hdone hlen
     rw [h15] at hdone
     obtain ⟨v1, v2, v3⟩ := hdone
     have H1 := jh hb1
     have H2 := jh hb2
     have H3 := jh hbel
     have H4 := jh hbm
     have V1 := jh v1
     have V2 := jh v2
     have V3 := jh v3
     have HLEN := jh hlen
     have Z16 := jh hz16
     clear hb1 hb2 hbel hbm hst hsp hz16 hm16 hb01 h15 v1 v2 v3 hlen
     have HM2 : Hid (Blk ((wr.setCell ⟨M, 15, none⟩ (.int .i64 (a - 32767 - bits .and .i64 (m / 65536) 1))).setCell ⟨M, 14, none⟩ (.int .i64 (bits .and .i64 m 65535))) M (ints .i64 ((ms.set 15 (a - 32767 - bits .and .i64 (m / 65536) 1)).set 14 (bits .and .i64 m 65535))) 68) := jh (by
      rw [← zbq, ← zbq]
      exact (H4.out.set 15 _).set 14 _)
     have HA2 := jh ((H1.out.far (a := ⟨M, 15, none⟩) (by simp; omega) (.int .i64 (a - 32767 - bits .and .i64 (m / 65536) 1))).far (a := ⟨M, 14, none⟩) (by simp; omega) (.int .i64 (bits .and .i64 m 65535)))
     have HN2 := jh ((H2.out.far (a := ⟨M, 15, none⟩) (by simp; omega) (.int .i64 (a - 32767 - bits .and .i64 (m / 65536) 1))).far (a := ⟨M, 14, none⟩) (by simp; omega) (.int .i64 (bits .and .i64 m 65535)))
     have HBE2 : Hid (Below w.heap.size w ((wr.setCell ⟨M, 15, none⟩ (.int .i64 (a - 32767 - bits .and .i64 (m / 65536) 1))).setCell ⟨M, 14, none⟩ (.int .i64 (bits .and .i64 m 65535)))) := jh ((H3.out.setCell (by simp; omega) _).setCell (by simp; omega) _)
     have hiN : Hid ((Tryz.prog.info? 68).map (·.size) = some (ints .i64 ((ms.set 15 (a - 32767 - bits .and .i64 (m / 65536) 1)).set 14 (bits .and .i64 m 65535))).length) := jh (by rw [zaa, HLEN.out]; exact Tryz.arr68)
     have hlN : Hid ((ints .i64 ((ms.set 15 (a - 32767 - bits .and .i64 (m / 65536) 1)).set 14 (bits .and .i64 m 65535))).length = (ints .i64 zs).length) := jh (by rw [zaa, zaa, HLEN.out, Z16.out])
     by_cases hge : 0 ≤ a - 32767 - bits .and .i64 (m / 65536) 1
     ·have hge2 : bits .and .i64 (m / 65536) 1 ≤ a - 32767 := by omega
      go_wp2_with (first | (refine zbh rfl _ _ rfl M rfl _ _ _ _ HM2.out q103 hiN.out ?_) | (refine zbe rfl _ _ _ rfl A _ rfl rfl _ _ HA2.out hlN.out hiN.out (zaj _ _) ?_; intro w7 hb7 hg7))
      go_roundw
      case rel => exact ⟨k + 1, _, by omega, by go_num, HOR.out.less hlt HLEN.out (V3.out hge) V1.out (V2.out.1 hge), hb7, HN2.out.grown hg7 (by simp), HBE2.out.grown hg7 HBE2.out.size (fun r hr => by cases hr; omega)⟩
      case measure => simp [intOf]; omega
     ·have hlt3 : a - 32767 - bits .and .i64 (m / 65536) 1 < 0 := by omega
      go_wp2_with fail
      go_roundw
      case rel => exact ⟨k + 1, zs, by omega, by go_num, HOR.out.keep hlt (fun h => hge (V2.out.2 h)), HA2.out, HN2.out, HBE2.out⟩
      case measure => simp [intOf]; omega
  ·have hk' : k = 3 := by omega
   subst hk'
   obtain ⟨N, hN⟩ : ∃ N, N = wr.heap.size := ⟨_, rfl⟩
   have hNA : A + 1 < N := by have := hb2.lt; omega
   have hmk := Blk.made wr (ints .u8 (List.replicate 32 0)) 23
   rw [← hN] at hmk
   have H1 := jh (hb1.alloc (.cells (ints .u8 (List.replicate 32 0)).toArray 23))
   have H2 := jh (hb2.alloc (.cells (ints .u8 (List.replicate 32 0)).toArray 23))
   have H3 := jh (hbel.alloc hbel.size (.cells (ints .u8 (List.replicate 32 0)).toArray 23))
   have H4 := jh hmk
   have HOR := jh hor
   clear hb1 hb2 hbel hmk hor
   go_wp2_with fail
   rw [← hN]
   change Code.wp _ _ _ _ (wr.alloc (.cells (ints .u8 (List.replicate 32 0)).toArray 23))
   generalize wr.alloc (.cells (ints .u8 (List.replicate 32 0)).toArray 23) = w6 at *
   clear hN
   obtain ⟨wo, rfl⟩ : ∃ wo : World, wo = wr := ⟨_, rfl⟩
   go_loopw [7] (fun i wr => ∃ (j : Nat) (bs : List Int), j ≤ 16 ∧ i = .int .i64 j ∧ OutB zs bs j ∧ Blk wr A (ints .i64 zs) 68 ∧ Blk wr (A + 1) (ints .u8 (List.replicate 32 0)) 23 ∧ Blk wr N (ints .u8 bs) 23 ∧ Below w.heap.size w wr) (fun i _ => 16 - (intOf i).toNat)
   case atStart => exact ⟨0, _, by omega, rfl, ⟨rfl, fun j hj => by omega⟩, H1.out, H2.out, H4.out, H3.out⟩
   case round =>
    clear H1 H2 H3 H4
    obtain ⟨j, bs, hj, rfl, hob, hb1, hb2, hbn, hbel⟩ := hrel
    have hz16 := HOR.out.len
    have hb32 := hob.len
    have j0' : (0 : Int) ≤ (j : Int) := Int.natCast_nonneg _
    by_cases hlt2 : j < 16
    ·have e1 := hb1.cell j
     rw [zan (by omega)] at e1
     have e2 := hbn.cell (2 * j)
     rw [zan (by omega)] at e2
     have e3 := hbn.cell (2 * j + 1)
     rw [zan (by omega)] at e3
     have f2 := hbn.free (2 * j)
     have f3 := hbn.free (2 * j + 1)
     have j1 : (j : Int) < 16 := by omega
     have s3 : (2 * (j : Int)).toNat = 2 * j := by omega
     have s4 : (2 * (j : Int) + 1).toNat = 2 * j + 1 := by omega
     have s5 : (0 : Int) ≤ 2 * (j : Int) := by omega
     have s6 : (0 : Int) ≤ 2 * (j : Int) + 1 := by omega
     have s7 : 2 * (j : Int) < 32 := by omega
     have s8 : 2 * (j : Int) + 1 < 32 := by omega
     have hst := hob.step hlt2
     generalize zs.getD j 0 = a at *
     have HST := jh hst
     have H1 := jh hb1
     have H2 := jh hb2
     have H3 := jh hbel
     have H4 := jh hbn
     clear hb1 hb2 hbel hbn hst hob hz16 hb32
     go_wp2_with fail
     go_roundw
     case rel =>
      refine ⟨j + 1, _, by omega, by go_num, HST.out, (H1.out.far (by simp; omega) _).far (by simp; omega) _, (H2.out.far (by simp; omega) _).far (by simp; omega) _, ?_, (H3.out.setCell (by simp; omega) _).setCell (by simp; omega) _⟩
      rw [← zbq, ← zbq]
      exact (H4.out.set (2 * j) _).set (2 * j + 1) _
     case measure => simp [intOf]; omega
    ·have hj' : j = 16 := by omega
     subst hj'
     have hfin := hob.done HOR.out
     have hi1 : Hid ((Tryz.prog.info? 23).map (·.size) = some (ints .u8 bs).length) := jh (by rw [zaa, hb32]; exact Tryz.arr23)
     have hl1 : Hid ((ints .u8 bs).length = (ints .u8 (List.replicate 32 0)).length) := jh (by rw [zaa, zaa, hb32]; rfl)
     have H2 := jh hb2
     have H3 := jh hbel
     have H4 := jh hbn
     have HF := jh hfin
     clear hb1 hb2 hbel hbn hob hz16 hb32 hfin
     go_wp2_with (first | (refine zbh rfl _ _ rfl N rfl _ _ _ _ H4.out q100 hi1.out ?_) | (refine zbe rfl _ _ _ rfl (A + 1) _ rfl rfl _ _ H2.out hl1.out hi1.out (zaj _ _) ?_; intro w7 hb7 hg7))
     exact bodyPost_ret (v := .agg (ints .u8 bs).toArray) (zbc (by rfl) _ (A + 1) _ _ _ _ (by rfl) hb7 q100 hi1.out) rfl ⟨by rw [HF.out], H3.out.grown hg7 H3.out.size (fun r hr => by cases hr; omega)⟩
theorem half_step {E k : Nat} (hk : k < 256) : E / 2 ^ (255 - k) = 2 * (E / 2 ^ (256 - k)) + E / 2 ^ (255 - k) % 2 := by
 have e : E / 2 ^ (256 - k) = E / 2 ^ (255 - k) / 2 := by
  rw [q177, ← q128]
  congr 2
  omega
 rw [e]
 omega
theorem el_len {zs : List Int} {x : Int} (h : IsEl (.agg (ints .i64 zs).toArray) x) : zs.length = 16 := by
 obtain ⟨zs', e, h, _⟩ := h
 have := congrArg (fun v : Value => match v with | .agg c => c.size | _ => 0) e
 simp [ints] at this
 omega
theorem rpow_any (u : Value) (x : Int) (l : List UInt8) (w : World) (hu : IsEl u x) (hl : l.length = 32) :
  Calls Tryz.prog 106 #[u, .agg (l.map bval).toArray] w fun e w' => ∃ r, e = .returned r ∧ IsEl r (x ^ leN l) ∧ Below w.heap.size w w' := by
 have HU := jh hu
 obtain ⟨xs, rfl, la, ba, qa, va⟩ := hu
 have HL := jh hl
 have LA := jh la
 have HBX := jh (boxes3 w (ints .i64 xs) (l.map bval) (ints .i64 (List.replicate 16 0)) 68 23 68)
 have HONE := jh (rone_el 1 (((w.alloc (.cells (ints .i64 xs).toArray 68)).alloc (.cells (l.map bval).toArray 23)).alloc (.cells (ints .i64 (List.replicate 16 0)).toArray 68)) (by omega) (by omega))
 clear la ba va hl
 go_enter Tryz.func106, Tryz.ntmps106
 go_wp2_with fail
 change Calls _ _ _ (((w.alloc (.cells (ints .i64 xs).toArray 68)).alloc (.cells (l.map bval).toArray 23)).alloc (.cells (ints .i64 (List.replicate 16 0)).toArray 68)) _
 generalize ((w.alloc (.cells (ints .i64 xs).toArray 68)).alloc (.cells (l.map bval).toArray 23)).alloc (.cells (ints .i64 (List.replicate 16 0)).toArray 68) = w0 at *
 obtain ⟨h1, h2, h3, h4⟩ := HBX.out
 obtain ⟨A, hA⟩ : ∃ A, A = w.heap.size := ⟨_, rfl⟩
 rw [← hA] at h1 h2 h3 ⊢
 have hA2 : w.heap.size ≤ A := by omega
 have H1 := jh h1
 have H2 := jh h2
 have H3 := jh h3
 have H4 := jh h4
 clear h1 h2 h3 h4 HBX hA
 refine HONE.out.mono ?_
 rintro e w1 ⟨r1, rfl, hr1, hb1⟩
 obtain ⟨z1, rfl, lz1, bz1, qz1, vz1⟩ := id hr1
 obtain ⟨X, hX⟩ : ∃ X, X = w1.heap.size := ⟨_, rfl⟩
 have h11 := H1.out.same (hb1.block _ H1.out.lt)
 have h21 := H2.out.same (hb1.block _ H2.out.lt)
 have h31 := H3.out.same (hb1.block _ H3.out.lt)
 have hXA : A + 1 + 1 < X := by have := h31.lt; omega
 have hmk := Blk.made w1 (ints .i64 (List.replicate 16 0)) 68
 have hbel := H4.out.trans (hb1.mono H4.out.size)
 have K1 := jh (h11.alloc (.cells (ints .i64 (List.replicate 16 0)).toArray 68))
 have K2 := jh (h21.alloc (.cells (ints .i64 (List.replicate 16 0)).toArray 68))
 have K3 := jh (h31.alloc (.cells (ints .i64 (List.replicate 16 0)).toArray 68))
 have K4 := jh (hbel.alloc hbel.size (.cells (ints .i64 (List.replicate 16 0)).toArray 68))
 have K5 := jh hmk
 have hi1 : Hid ((Tryz.prog.info? 68).map (·.size) = some (ints .i64 z1).length) := jh (by rw [zaa, lz1]; exact Tryz.arr68)
 have hl1 : Hid ((ints .i64 z1).length = (ints .i64 (List.replicate 16 0)).length) := jh (by rw [zaa, zaa, lz1]; rfl)
 have HR1 := jh hr1
 clear hb1 h11 h21 h31 hmk hbel lz1 bz1 vz1 hr1
 go_wp2_with (refine zbe rfl _ _ _ rfl w1.heap.size (ints .i64 z1) rfl rfl _ _ K5.out hl1.out hi1.out (zaj _ _) ?_; intro w5 hb5 hg5)
 rw [← hX] at hb5 hg5 ⊢
 have J1 := jh (K1.out.grown hg5 (by simp; omega))
 have J2 := jh (K2.out.grown hg5 (by simp; omega))
 have J3 := jh (K3.out.grown hg5 (by simp; omega))
 have J4 := jh (K4.out.grown hg5 K4.out.size (fun r hr => by cases hr; omega))
 have J5 := jh hb5
 have hE : leN l < 2 ^ 256 := by
  have := leN_lt l
  rw [HL.out] at this
  have e : (256 : Nat) ^ 32 = 2 ^ 256 := by decide +kernel
  rw [e] at this
  exact this
 have HE := jh hE
 clear hb5 hg5 hX K1 K2 K3 K4 K5 H1 H2 H3 H4 hl1 hi1 HONE hE
 go_loopw [6] (fun i wr => ∃ (k : Nat) (zs : List Int), k ≤ 256 ∧ i = .int .i64 (255 - (k : Int)) ∧ IsEl (.agg (ints .i64 zs).toArray) (x ^ (leN l / 2 ^ (256 - k))) ∧ Blk wr A (ints .i64 xs) 68 ∧ Blk wr (A + 1) (l.map bval) 23 ∧ Blk wr (A + 1 + 1) (ints .i64 (List.replicate 16 0)) 68 ∧ Blk wr X (ints .i64 zs) 68 ∧ Below w.heap.size w wr) (fun i _ => (intOf i + 1).toNat)
 case atStart => exact ⟨0, z1, by omega, rfl, by rw [Nat.sub_zero, q157 HE.out, Int.pow_zero]; exact HR1.out, J1.out, J2.out, J3.out, J5.out, J4.out⟩
 case round =>
  clear J1 J2 J3 J4 J5 HR1
  obtain ⟨k, zs, hk, rfl, hel, hb1, hb2, hb3, hbx, hbel⟩ := hrel
  have i0' : (0 : Int) ≤ (k : Int) := Int.natCast_nonneg _
  by_cases hlt : k < 256
  ·have i1 : (0 : Int) ≤ 255 - (k : Int) := by omega
   have i2 : (k : Int) ≤ 255 := by omega
   have hsq := rmul_any _ _ _ _ wr hel hel
   have hzl : zs.length = 16 := by
    obtain ⟨zs', e, h, _⟩ := hel
    have := congrArg (fun v : Value => match v with | .agg c => c.size | _ => 0) e
    simp [ints] at this
    omega
   have e1 := hb2.cell ((255 - k) / 8)
   rw [zbg (by have := HL.out; omega)] at e1
   have H1 := jh hb1
   have H2 := jh hb2
   have H3 := jh hb3
   have HX := jh hbx
   have HB := jh hbel
   have HEL := jh hel
   have HSQ := jh hsq
   have hiz : Hid ((Tryz.prog.info? 68).map (·.size) = some (ints .i64 zs).length) := jh (by rw [zaa, hzl]; exact Tryz.arr68)
   clear hb1 hb2 hb3 hbx hbel hel hsq
   go_wp2_with (refine zbh rfl _ _ rfl X rfl _ _ _ _ HX.out q103 hiz.out ?_)
   refine HSQ.out.mono ?_
   rintro e w6 ⟨r6, rfl, hr6, hb6⟩
   obtain ⟨z6, rfl, lz6, bz6, qz6, vz6⟩ := id hr6
   have e16 := hb6.cell (p := ⟨A + 1, (255 - k) / 8, none⟩) (H2.out.lt)
   rw [e1] at e16
   have K1 := jh (H1.out.same (hb6.block _ H1.out.lt))
   have K2 := jh (H2.out.same (hb6.block _ H2.out.lt))
   have K3 := jh (H3.out.same (hb6.block _ H3.out.lt))
   have KX := jh (HX.out.same (hb6.block _ HX.out.lt))
   have KB := jh (HB.out.trans (hb6.mono HB.out.size))
   have hi6 : Hid ((Tryz.prog.info? 68).map (·.size) = some (ints .i64 z6).length) := jh (by rw [zaa, lz6]; exact Tryz.arr68)
   have hl6 : Hid ((ints .i64 z6).length = (ints .i64 zs).length) := jh (by rw [zaa, zaa, lz6, hzl])
   have HR6 := jh hr6
   clear hb6 lz6 bz6 vz6 hr6 e1 H1 H2 H3 HX HB hzl
   generalize hbt : (l.getD ((255 - k) / 8) 0).toNat = bt at *
   have HBT := jh hbt
   clear hbt
   have s1 : ((255 - (k : Int)) / 8).toNat = (255 - k) / 8 := by omega
   have s2 : (0 : Int) ≤ (255 - (k : Int)) / 8 := by omega
   have s3 : (255 - (k : Int)) / 8 < 32 := by omega
   have s4 : (0 : Int) ≤ (255 - (k : Int)) % 8 := by omega
   have s5 : (255 - (k : Int)) % 8 < 8 := by omega
   have hsplit := half_step (E := leN l) hlt
   have hbit := leN_bit l (255 - k) (by have := HL.out; omega)
   rw [HBT.out] at hbit
   have hcast : (bt : Int) / 2 ^ ((255 - k) % 8) = ((bt / 2 ^ ((255 - k) % 8) : Nat) : Int) := by
    rw [Int.natCast_ediv, Int.natCast_pow]
    rfl
   have e255 : 256 - (k + 1) = 255 - k := by omega
   by_cases hb1 : leN l / 2 ^ (255 - k) % 2 = 1
   ·have hq : (bits .and .u8 ((bt : Int) / 2 ^ ((255 - k) % 8)) 1 == 1) = true := by
     rw [hcast, andU1, ← hbit, hb1]
     rfl
    have hgoal : Hid (x ^ (leN l / 2 ^ (256 - (k + 1))) = x ^ (leN l / 2 ^ (256 - k)) * x ^ (leN l / 2 ^ (256 - k)) * x) := jh (by
     rw [e255, hsplit, hb1, q122, Nat.two_mul, q135])
    have hiX : Hid ((Tryz.prog.info? 68).map (·.size) = some (ints .i64 xs).length) := jh (by rw [zaa, LA.out]; exact Tryz.arr68)
    clear hsplit hbit hcast e255 hb1
    go_wp2_with (first | (refine zbe rfl _ _ _ rfl X (ints .i64 z6) rfl rfl _ _ KX.out hl6.out hi6.out (zaj _ _) ?_; intro w7 hb7 hg7; have e7 := (hg7.cell_far ⟨A + 1, (255 - k) / 8, none⟩ (K2.out.lt) (by simp; omega)).trans e16; have k7 := K1.out.grown hg7 (by simp; omega)) | (refine zbh rfl _ _ rfl X rfl _ _ _ _ hb7 q103 hi6.out ?_) | (refine zbh rfl _ _ rfl A rfl _ _ _ _ k7 q103 hiX.out ?_))
    have L2 := jh (K2.out.grown hg7 (by simp; omega))
    have L3 := jh (K3.out.grown hg7 (by simp; omega))
    have LB := jh (KB.out.grown hg7 KB.out.size (fun r hr => by cases hr; omega))
    have LX := jh hb7
    have L1 := jh k7
    have HM := jh (rmul_any _ _ _ _ w7 HR6.out HU.out)
    clear hb7 hg7 e7 k7 e16
    refine HM.out.mono ?_
    rintro e w8 ⟨r8, rfl, hr8, hb8⟩
    obtain ⟨z8, rfl, lz8, bz8, qz8, vz8⟩ := id hr8
    have M1 := jh (L1.out.same (hb8.block _ L1.out.lt))
    have M2 := jh (L2.out.same (hb8.block _ L2.out.lt))
    have M3 := jh (L3.out.same (hb8.block _ L3.out.lt))
    have MX := jh (LX.out.same (hb8.block _ LX.out.lt))
    have MB := jh (LB.out.trans (hb8.mono LB.out.size))
    have hi8 : Hid ((Tryz.prog.info? 68).map (·.size) = some (ints .i64 z8).length) := jh (by rw [zaa, lz8]; exact Tryz.arr68)
    have hl8 : Hid ((ints .i64 z8).length = (ints .i64 z6).length) := jh (by rw [zaa, zaa, lz8, el_len HR6.out])
    have HR8 := jh hr8
    clear hb8 lz8 bz8 vz8 hr8
    go_wp2_with (refine zbe rfl _ _ _ rfl X (ints .i64 z8) rfl rfl _ _ MX.out hl8.out hi8.out (zaj _ _) ?_; intro w9 hb9 hg9)
    go_roundw
    case rel => exact ⟨k + 1, z8, by omega, by go_num, by rw [hgoal.out]; exact HR8.out, M1.out.grown hg9 (by simp; omega), M2.out.grown hg9 (by simp; omega), M3.out.grown hg9 (by simp; omega), hb9, MB.out.grown hg9 MB.out.size (fun r hr => by cases hr; omega)⟩
    case measure => simp [intOf]; omega
   ·have hb0 : leN l / 2 ^ (255 - k) % 2 = 0 := by omega
    have hq : (bits .and .u8 ((bt : Int) / 2 ^ ((255 - k) % 8)) 1 == 1) = false := by
     rw [hcast, andU1, ← hbit, hb0]
     rfl
    have hgoal : Hid (x ^ (leN l / 2 ^ (256 - (k + 1))) = x ^ (leN l / 2 ^ (256 - k)) * x ^ (leN l / 2 ^ (256 - k))) := jh (by
     rw [e255, hsplit, hb0, Nat.add_zero, Nat.two_mul, q135])
    clear hsplit hbit hcast e255 hb1 hb0
    go_wp2_with (refine zbe rfl _ _ _ rfl X (ints .i64 z6) rfl rfl _ _ KX.out hl6.out hi6.out (zaj _ _) ?_; intro w7 hb7 hg7; have e7 := (hg7.cell_far ⟨A + 1, (255 - k) / 8, none⟩ (K2.out.lt) (by simp; omega)).trans e16)
    go_roundw
    case rel => exact ⟨k + 1, z6, by omega, by go_num, by rw [hgoal.out]; exact HR6.out, K1.out.grown hg7 (by simp; omega), K2.out.grown hg7 (by simp; omega), K3.out.grown hg7 (by simp; omega), hb7, KB.out.grown hg7 KB.out.size (fun r hr => by cases hr; omega)⟩
    case measure => simp [intOf]; omega
  ·have hk' : k = 256 := by omega
   subst hk'
   have hzl := el_len hel
   have HX := jh hbx
   have H3 := jh hb3
   have HB := jh hbel
   have HEL : Hid (IsEl (.agg (ints .i64 zs).toArray) (x ^ leN l)) := jh (by simpa using hel)
   have hiz : Hid ((Tryz.prog.info? 68).map (·.size) = some (ints .i64 zs).length) := jh (by rw [zaa, hzl]; exact Tryz.arr68)
   have hlz : Hid ((ints .i64 zs).length = (ints .i64 (List.replicate 16 0)).length) := jh (by rw [zaa, zaa, hzl]; rfl)
   clear hb1 hb2 hb3 hbx hbel hel hzl
   go_wp2_with (first | (refine zbh rfl _ _ rfl X rfl _ _ _ _ HX.out q103 hiz.out ?_) | (refine zbe rfl _ _ _ rfl (A + 1 + 1) _ rfl rfl _ _ H3.out hlz.out hiz.out (zaj _ _) ?_; intro w7 hb7 hg7))
   exact bodyPost_ret (v := .agg (ints .i64 zs).toArray) (zbc (by rfl) _ (A + 1 + 1) _ _ _ _ (by rfl) hb7 q103 hiz.out) rfl ⟨_, rfl, HEL.out, HB.out.grown hg7 HB.out.size (fun r hr => by cases hr; omega)⟩
def nb (x : Int) : List UInt8 := bytesN 32 (x % pP).toNat
theorem zbr (x : Int) : (nb x).length = 32 := zav _ _
def numP (x : Int) : Value := .agg ((bytesN 32 (x % pP).toNat).map bval).toArray
structure FullB (bs : List Int) (k : Nat) : Prop where
 len : bs.length = 32
 low : ∀ j, j < k → bs.getD j 0 = 255
theorem FullB.step {bs : List Int} {k : Nat} (h : FullB bs k) (hk : k < 32) : FullB (bs.set k 255) (k + 1) := by
 obtain ⟨h1, h2⟩ := h
 refine ⟨by simp [h1], fun j hj => ?_⟩
 by_cases e : j = k
 ·subst e
  rw [zal (by omega)]
 ·rw [zag (by omega)]
  exact h2 j (by omega)
theorem FullB.done {bs : List Int} (h : FullB bs 32) : bs = List.replicate 32 255 := by
 apply List.ext_getElem?
 intro i
 by_cases hi : i < 32
 ·have := h.low i hi
  have hl := h.len
  rw [List.getElem?_eq_getElem (by omega), List.getElem?_replicate, if_pos hi]
  simpa [List.getD, show i < bs.length from by omega] using this
 ·rw [List.getElem?_eq_none (by have := h.len; omega), List.getElem?_eq_none (by simp; omega)]
theorem rin_el (l : List UInt8) (w : World) (hl : l.length = 32) :
  Calls Tryz.prog 78 #[.agg (l.map bval).toArray] w fun e w' => ∃ r, e = .returned r ∧ IsEl r (leN l) ∧ Below w.heap.size w w' := by
 refine (rin_any l w hl).mono ?_
 rintro e w' ⟨zs, rfl, h1, h2, h3, h4⟩
 exact ⟨_, rfl, ⟨zs, rfl, h1, fun z hz => by have := h2 z hz; omega, 0, by rw [h3]; omega⟩, h4⟩
theorem fld_leN_p2 : leN (bytesN 32 (pP - 2).toNat) = (pP - 2).toNat := by decide +kernel
theorem rmost_any (w : World) : Calls Tryz.prog 107 #[.int .i64 21] w fun e w' => e = .returned (.agg ((bytesN 32 (pP - 2).toNat).map bval).toArray) ∧ Below w.heap.size w w' := by
 have HBX := jh (boxes2 w (ints .u8 (List.replicate 32 0)) (ints .u8 (List.replicate 32 0)) 23 23)
 go_enter Tryz.func107, Tryz.ntmps107
 go_wp2_with fail
 change Code.wp _ _ _ _ ((w.alloc (.cells (ints .u8 (List.replicate 32 0)).toArray 23)).alloc (.cells (ints .u8 (List.replicate 32 0)).toArray 23))
 generalize (w.alloc (.cells (ints .u8 (List.replicate 32 0)).toArray 23)).alloc (.cells (ints .u8 (List.replicate 32 0)).toArray 23) = w0 at *
 obtain ⟨h1, h2, h3⟩ := HBX.out
 obtain ⟨A, hA⟩ : ∃ A, A = w.heap.size := ⟨_, rfl⟩
 rw [← hA] at h1 h2 ⊢
 have hA2 : w.heap.size ≤ A := by omega
 have H1 := jh h1
 have H2 := jh h2
 have H3 := jh h3
 clear h1 h2 h3 HBX hA
 go_loopw [4] (fun i wr => ∃ (k : Nat) (bs : List Int), k ≤ 32 ∧ i = .int .i64 k ∧ FullB bs k ∧ Blk wr A (ints .u8 (List.replicate 32 0)) 23 ∧ Blk wr (A + 1) (ints .u8 bs) 23 ∧ Below w.heap.size w wr) (fun i _ => 32 - (intOf i).toNat)
 case atStart => exact ⟨0, _, by omega, rfl, ⟨rfl, fun j hj => by omega⟩, H1.out, H2.out, H3.out⟩
 case round =>
  clear H1 H2 H3
  obtain ⟨k, bs, hk, rfl, hfb, hb1, hb2, hbel⟩ := hrel
  have i0' : (0 : Int) ≤ (k : Int) := Int.natCast_nonneg _
  have hlen := hfb.len
  by_cases hlt : k < 32
  ·have i1 : (k : Int) < 32 := by omega
   have e1 := hb2.cell k
   rw [zan (by omega)] at e1
   have f1 := hb2.free k
   have hst := hfb.step hlt
   have HST := jh hst
   have H1 := jh hb1
   have H2 := jh hb2
   have H3 := jh hbel
   clear hb1 hb2 hbel hfb hst hlen
   go_wp2_with fail
   go_roundw
   case rel =>
    refine ⟨k + 1, _, by omega, by go_num, HST.out, H1.out.far (by simp) _, ?_, H3.out.setCell (by simp; omega) _⟩
    rw [← zbq]
    exact H2.out.set k _
   case measure => simp [intOf]; omega
  ·have hk' : k = 32 := by omega
   subst hk'
   have hd := hfb.done
   subst hd
   have e1 : wr.cell? ⟨A + 1, 31, none⟩ = some (.int .u8 255) := by rw [hb2.cell 31]; rfl
   have e2 : wr.cell? ⟨A + 1, 0, none⟩ = some (.int .u8 255) := by rw [hb2.cell 0]; rfl
   have f1 := hb2.free 31
   have f2 := hb2.free 0
   have hb3 := (hb2.set 31 (.int .u8 127)).set 0 (.int .u8 235)
   have hb4 := (hb1.far (a := ⟨A + 1, 31, none⟩) (by simp) (.int .u8 127)).far (a := ⟨A + 1, 0, none⟩) (by simp) (.int .u8 235)
   rw [zbq, zbq] at hb3
   have e3 : ints .u8 (((List.replicate 32 255).set 31 127).set 0 235) = (bytesN 32 (pP - 2).toNat).map bval := by kernel_rfl
   rw [e3] at hb3
   have hb5 : Below w.heap.size w ((wr.setCell ⟨A + 1, 31, none⟩ (.int .u8 127)).setCell ⟨A + 1, 0, none⟩ (.int .u8 235)) := (hbel.setCell (by simp; omega) _).setCell (by simp; omega) _
   have H3 := jh hb3
   have H4 := jh hb4
   have H5 := jh hb5
   have hi1 : Hid ((Tryz.prog.info? 23).map (·.size) = some ((bytesN 32 (pP - 2).toNat).map bval).length) := jh (by rw [q101, zav]; exact Tryz.arr23)
   have hl1 : Hid (((bytesN 32 (pP - 2).toNat).map bval).length = (ints .u8 (List.replicate 32 0)).length) := jh (by rw [q101, zav]; rfl)
   clear hb1 hb2 hb3 hb4 hb5 hbel hfb hlen e3
   go_wp2_with (first | (refine zbh rfl _ _ rfl (A + 1) rfl _ _ _ _ H3.out q100 hi1.out ?_) | (refine zbe rfl _ _ _ rfl A _ rfl rfl _ _ H4.out hl1.out hi1.out (zaf _) ?_; intro w7 hb7 hg7))
   exact bodyPost_ret (v := .agg ((bytesN 32 (pP - 2).toNat).map bval).toArray) (zbc (by rfl) _ A _ _ _ _ (by rfl) hb7 q100 hi1.out) rfl ⟨rfl, H5.out.grown hg7 H5.out.size (fun r hr => by cases hr; omega)⟩
theorem rinv_any (u : Value) (x : Int) (w : World) (hu : IsEl u x) :
  Calls Tryz.prog 67 #[u] w fun e w' => ∃ r, e = .returned r ∧ IsEl r (x ^ (pP - 2).toNat) ∧ Below w.heap.size w w' := by
 have HUE := jh hu
 obtain ⟨xs, rfl, la, ba, qa, va⟩ := hu
 have hu := q103
 have hi1 : (Tryz.prog.info? 68).map (·.size) = some (ints .i64 xs).length := by rw [zaa, la]; exact Tryz.arr68
 have HU := jh hu
 have HI1 := jh hi1
 have HBX := jh (boxes2 w (ints .i64 xs) (ints .i64 (List.replicate 16 0)) 68 68)
 clear la ba va hu hi1
 go_enter Tryz.func67, Tryz.ntmps67
 go_wp2_with fail
 change Code.wp _ _ _ _ ((w.alloc (.cells (ints .i64 xs).toArray 68)).alloc (.cells (ints .i64 (List.replicate 16 0)).toArray 68))
 generalize (w.alloc (.cells (ints .i64 xs).toArray 68)).alloc (.cells (ints .i64 (List.replicate 16 0)).toArray 68) = w0 at *
 obtain ⟨h1, h2, h4⟩ := HBX.out
 obtain ⟨A, hA⟩ : ∃ A, A = w.heap.size := ⟨_, rfl⟩
 rw [← hA] at h1 h2 ⊢
 have hA2 : w.heap.size ≤ A := by omega
 have H1 := jh h1
 have H3 := jh h2
 have H4 := jh h4
 clear h1 h2 h4 HBX hA
 have hi1 := HI1.out
 have hu := HU.out
 have B0 : Below w0.heap.size w0 w0.drew := (Below.refl _ _).drew
 refine wp_region_held_drew (S := fun w' => w'.rangeAt A 0 (ints .i64 xs)) (by kernel_rfl) (zah H1.out B0) (fun hW => ?_)
 refine tke 0 (.agg (ints .i64 xs).toArray) rfl (yieldsIf_load_mid (by rfl) _ _ rfl A 0 rfl _ _ (fun w h => h) hu rfl hi1) hW ?_
 try simp only [nm]
 refine rdy 1 rfl fun K hK => ?_
 go_simp
 refine (rmost_any _).mono ?_
 rintro e w1 ⟨rfl, b1⟩
 have B1 := B0.trans (b1.mono B0.size)
 refine hK.out _ _ (zah H1.out B1) (fun hW => ?_)
 clear hK K hW
 try simp only [nm]
 refine rdy 2 rfl fun K hK => ?_
 go_simp
 refine (rpow_any _ _ _ _ HUE.out (zav 32 (pP - 2).toNat)).mono ?_
 rintro e w2 ⟨r2, rfl, e2, b2⟩
 rw [fld_leN_p2] at e2
 obtain ⟨z2, rfl, lz2, bz2, qz2, vz2⟩ := id e2
 have B2 := B1.trans (b2.mono B1.size)
 refine hK.out _ _ (zah H1.out B2) (fun hW => ?_)
 clear hK K hW
 try simp only [nm]
 refine rdy 3 rfl fun K hK => ?_
 have hi2 : (Tryz.prog.info? 68).map (·.size) = some (ints .i64 z2).length := by rw [zaa, lz2]; exact Tryz.arr68
 rw [if_pos (by rfl)]
 refine zak _ _ _ rfl (A + 1) (ints .i64 z2) rfl rfl _ _ (bl_blk H3.out B2) (by rw [zaa, zaa, lz2]; rfl) hi2 (zaj _ _) ?_
 intro w5 hb5 hg5
 refine hK.out _ _ ((bl_blk H1.out B2).grown hg5 (by simp)).range (fun hW => ?_)
 clear hK K hW
 refine dne ?_
 have HB5 := jh ((H4.out.trans (B2.mono H4.out.size)).grown hg5 (q121 H4.out.size B2.size) (fun r hr => by cases hr; omega))
 have HI2 := jh hi2
 have HBB := jh hb5
 have HE2 := jh e2
 clear hi1 hu hi2 hb5 hg5 e2 vz2 bz2 lz2
 go_wp2_with fail
 exact bodyPost_ret (v := .agg (ints .i64 z2).toArray) (zbc (by rfl) _ (A + 1) _ _ _ _ (by rfl) HBB.out HU.out HI2.out) rfl ⟨_, rfl, HE2.out, HB5.out⟩
theorem radd_any (u v : Value) (x y : Int) (w : World) (hu : IsEl u x) (hv : IsEl v y) :
  Calls Tryz.prog 81 #[u, v] w fun e w' => ∃ r, e = .returned r ∧ IsEl r (x + y) ∧ Below w.heap.size w w' := by
 obtain ⟨xs, rfl, la, ba, qa, va⟩ := hu
 obtain ⟨ys, rfl, lb, bb, qb, vb⟩ := hv
 have HA := jh ba
 have HB := jh bb
 have LA := jh la
 have LB := jh lb
 have VA := jh va
 have VB := jh vb
 have HBX := jh (boxes3 w (ints .i64 xs) (ints .i64 ys) (ints .i64 (List.replicate 16 0)) 68 68 68)
 clear ba bb la lb va vb
 go_enter Tryz.func81, Tryz.ntmps81
 go_wp2_with fail
 change Code.wp _ _ _ _ (((w.alloc (.cells (ints .i64 xs).toArray 68)).alloc (.cells (ints .i64 ys).toArray 68)).alloc (.cells (ints .i64 (List.replicate 16 0)).toArray 68))
 generalize ((w.alloc (.cells (ints .i64 xs).toArray 68)).alloc (.cells (ints .i64 ys).toArray 68)).alloc (.cells (ints .i64 (List.replicate 16 0)).toArray 68) = w0 at *
 obtain ⟨h1, h2, h3, h4⟩ := HBX.out
 obtain ⟨A, hA⟩ : ∃ A, A = w.heap.size := ⟨_, rfl⟩
 rw [← hA] at h1 h2 h3 ⊢
 have hA2 : w.heap.size ≤ A := by omega
 have H1 := jh h1
 have H2 := jh h2
 have H3 := jh h3
 have H4 := jh h4
 clear h1 h2 h3 h4 HBX hA
 go_loopw [5] (fun i wr => ∃ (k : Nat) (zs : List Int), k ≤ 16 ∧ i = .int .i64 k ∧ AddS xs ys zs k ∧ Blk wr A (ints .i64 zs) 68 ∧ Blk wr (A + 1) (ints .i64 ys) 68 ∧ Blk wr (A + 1 + 1) (ints .i64 (List.replicate 16 0)) 68 ∧ Below w.heap.size w wr) (fun i _ => 16 - (intOf i).toNat)
 case atStart => exact ⟨0, xs, by omega, rfl, ⟨LA.out, by simp [dV], fun i _ _ => rfl, fun i hi => by omega⟩, H1.out, H2.out, H3.out, H4.out⟩
 case round =>
  clear H1 H2 H3 H4
  obtain ⟨k, zs, hk, rfl, hin, hb1, hb2, hb3, hbel⟩ := hrel
  have i0' : (0 : Int) ≤ (k : Int) := Int.natCast_nonneg _
  have hl16 := hin.len
  by_cases hlt : k < 16
  ·have e1 := hb1.cell k
   rw [zan (by omega), hin.high k (q102 _) hlt] at e1
   have e2 := hb2.cell k
   rw [zan (by have := LB.out; omega)] at e2
   have fk := hb1.free k
   have i1 : (k : Int) < 16 := by omega
   have hst := hin.step hlt HA.out HB.out LA.out LB.out
   have b1 := zcj (P := fun z => -131072 ≤ z ∧ z ≤ 131072) HA.out (i := k) (by have := LA.out; omega)
   have b2 := zcj (P := fun z => -131072 ≤ z ∧ z ≤ 131072) HB.out (i := k) (by have := LB.out; omega)
   generalize xs.getD k 0 = a at *
   generalize ys.getD k 0 = b at *
   obtain ⟨b11, b12⟩ := b1
   obtain ⟨b21, b22⟩ := b2
   have W1 : Hid (wrap64 (a + b) = a + b) := jh (by rw [← IntWalk.i64_left]; exact IntWalk.i64_in _ (by omega))
   have HST := jh hst
   have HB1 := jh hb1
   have HB2 := jh hb2
   have HB3 := jh hb3
   have HBE := jh hbel
   clear hin hst hb1 hb2 hb3 hbel hl16
   go_wp2_with fail
   go_region
   go_wp2_with fail
   go_roundw
   case rel =>
    try rw [W1.out]
    refine ⟨k + 1, _, by omega, by go_num, HST.out, ?_, HB2.out.far (by simp) _, HB3.out.far (by simp; omega) _, (HBE.out.setCell (by simp; omega) _).drew⟩
    rw [← zbq]
    exact HB1.out.set k _
   case measure => simp [intOf]; omega
  ·have hk' : k = 16 := by omega
   subst hk'
   have hval := hin.val
   rw [q110 (by have := LB.out; omega)] at hval
   have hbd : ∀ z ∈ zs, -262144 ≤ z ∧ z ≤ 262144 := zeq (P := fun z => -262144 ≤ z ∧ z ≤ 262144) hl16 (fun i hi => hin.low i hi hi)
   have HB1 := jh hb1
   have HB3 := jh hb3
   have HBE := jh hbel
   have HVAL := jh hval
   have hi1 : Hid ((Tryz.prog.info? 68).map (·.size) = some (ints .i64 zs).length) := jh (by rw [zaa, hl16]; exact Tryz.arr68)
   have HC := jh (carry_any zs 262144 wr hl16 hbd (by omega) (by omega))
   clear hb1 hb2 hb3 hbel hin hl16 hval hbd
   go_wp2_with (refine zbh rfl _ _ rfl A rfl _ _ _ _ HB1.out q103 hi1.out ?_)
   refine HC.out.mono ?_
   rintro e w5 ⟨zs', rfl, hcz, hb5⟩
   have HB35 : Hid (Blk w5 (A + 1 + 1) (ints .i64 (List.replicate 16 0)) 68) := jh (HB3.out.same (hb5.block _ HB3.out.lt))
   have HBE5 := jh (HBE.out.trans (hb5.mono HBE.out.size))
   have hi2 : Hid ((Tryz.prog.info? 68).map (·.size) = some (ints .i64 zs').length) := jh (by rw [zaa, hcz.len]; exact Tryz.arr68)
   have hl2 : Hid ((ints .i64 zs').length = (ints .i64 (List.replicate 16 0)).length) := jh (by rw [zaa, zaa, hcz.len]; rfl)
   have HCZ := jh hcz
   clear hb5 hcz
   go_wp2_with (refine zbe rfl _ _ _ rfl (A + 1 + 1) _ rfl rfl _ _ HB35.out hl2.out hi2.out (zaj _ _) ?_; intro w6 hb6 hg6)
   obtain ⟨q1, q, q2⟩ := HCZ.out.el (by omega)
   refine bodyPost_ret (v := .agg (ints .i64 zs').toArray) (zbc (by rfl) _ (A + 1 + 1) _ _ _ _ (by rfl) hb6 q103 hi2.out) rfl ⟨_, rfl, ⟨zs', rfl, HCZ.out.len, q1, qa + qb + q, ?_⟩, HBE5.out.grown hg6 HBE5.out.size (fun r hr => by cases hr; omega)⟩
   rw [q2, HVAL.out, VA.out, VB.out]
   grind
section
def IsPrime (p : Nat) : Prop := 2 ≤ p ∧ ∀ d, d ∣ p → d = 1 ∨ d = p
theorem IsPrime.coprime {p a : Nat} (h : IsPrime p) (ha : ¬ p ∣ a) : Nat.Coprime p a := by
 rcases h.2 _ (Nat.gcd_dvd_left p a) with h1 | h1
 ·exact h1
 ·exact absurd (h1 ▸ Nat.gcd_dvd_right p a) ha
theorem IsPrime.dvd_mul {p a b : Nat} (h : IsPrime p) (hd : p ∣ a * b) : p ∣ a ∨ p ∣ b := by
 by_cases ha : p ∣ a
 ·exact Or.inl ha
 ·exact Or.inr ((h.coprime ha).dvd_of_dvd_mul_left hd)
theorem exists_prime_dvd : ∀ (n : Nat), 2 ≤ n → ∃ r, IsPrime r ∧ r ∣ n
 | n, hn => by
  by_cases h : ∀ d, d ∣ n → d = 1 ∨ d = n
  ·exact ⟨n, ⟨hn, h⟩, Nat.dvd_refl n⟩
  ·obtain ⟨d, hd⟩ := Classical.not_forall.1 h
   rw [Classical.not_imp] at hd
   obtain ⟨hdn, hd2⟩ := hd
   have h1 : d ≠ 1 := fun e => hd2 (Or.inl e)
   have h2 : d ≠ n := fun e => hd2 (Or.inr e)
   have h3 : d ≤ n := Nat.le_of_dvd (by omega) hdn
   have h0 : d ≠ 0 := fun e => by
    subst e
    have := Nat.eq_zero_of_zero_dvd hdn
    omega
   obtain ⟨r, hr, hrd⟩ := exists_prime_dvd d (by omega)
   exact ⟨r, hr, Nat.dvd_trans hrd hdn⟩
  termination_by n => n
theorem prime_of_roots {n : Nat} (hn : 2 ≤ n) (h : ∀ r, IsPrime r → r ∣ n → n < r * r) : IsPrime n := by
 refine ⟨hn, fun d hd => ?_⟩
 by_cases h1 : d = 1
 ·exact Or.inl h1
 ·by_cases h2 : d = n
  ·exact Or.inr h2
  ·exfalso
   obtain ⟨e, he⟩ := hd
   have hd0 : d ≠ 0 := fun e => by subst e; omega
   have he0 : e ≠ 0 := fun e' => by subst e'; omega
   have he1 : e ≠ 1 := fun e' => by subst e'; omega
   obtain ⟨r, hr, hrd⟩ := exists_prime_dvd d (by omega)
   obtain ⟨s, hs, hse⟩ := exists_prime_dvd e (by omega)
   have a1 := h r hr (he ▸ Nat.dvd_trans hrd (Nat.dvd_mul_right d e))
   have a2 := h s hs (he ▸ Nat.dvd_trans hse (Nat.dvd_mul_left e d))
   have b1 := Nat.le_of_dvd (by omega) hrd
   have b2 := Nat.le_of_dvd (by omega) hse
   have c1 := Nat.mul_le_mul b1 b1
   have c2 := Nat.mul_le_mul b2 b2
   have d1 : d * e < d * d := by omega
   have d2 : d * e < e * e := by omega
   have e1 := Nat.lt_of_mul_lt_mul_left d1
   have e2 : d < e := by
    rw [q129 d e] at d2
    exact Nat.lt_of_mul_lt_mul_left d2
   omega
def ch : Nat → Nat → Nat
 | _, 0 => 1
 | 0, _ + 1 => 0
 | n + 1, k + 1 => ch n k + ch n (k + 1)
theorem ch_mul : ∀ (n k : Nat), (k + 1) * ch (n + 1) (k + 1) = (n + 1) * ch n k
 | 0, 0 => by simp [ch]
 | 0, k + 1 => by simp [ch]
 | n + 1, 0 => by
  have := ch_mul n 0
  simp only [ch] at this ⊢
  omega
 | n + 1, k + 1 => by
  have h1 := ch_mul n k
  have h2 := ch_mul n (k + 1)
  have e : ch (n + 1 + 1) (k + 1 + 1) = ch (n + 1) (k + 1) + ch (n + 1) (k + 1 + 1) := rfl
  have e2 : ch (n + 1) (k + 1) = ch n k + ch n (k + 1) := rfl
  rw [e, Nat.mul_add, h2]
  have e3 : (k + 1 + 1) * ch (n + 1) (k + 1) = (k + 1) * ch (n + 1) (k + 1) + ch (n + 1) (k + 1) := by rw [Nat.add_mul (k + 1) 1, Nat.one_mul]
  rw [e3, h1, e2, Nat.mul_add (n + 1 + 1), Nat.add_mul (n + 1) 1 (ch n k), Nat.add_mul (n + 1) 1 (ch n (k + 1))]
  omega
theorem ch_over : ∀ (n k : Nat), n < k → ch n k = 0
 | _, 0, h => by omega
 | 0, k + 1, _ => rfl
 | n + 1, k + 1, h => by
  show ch n k + ch n (k + 1) = 0
  rw [ch_over n k (by omega), ch_over n (k + 1) (by omega)]
theorem ch_self : ∀ (n : Nat), ch n n = 1
 | 0 => rfl
 | n + 1 => by
  show ch n n + ch n (n + 1) = 1
  rw [ch_self n, ch_over n (n + 1) (by omega)]
def sumTo (f : Nat → Nat) : Nat → Nat
 | 0 => 0
 | m + 1 => sumTo f m + f m
theorem sumTo_shift (f : Nat → Nat) : ∀ m, sumTo f (m + 1) = f 0 + sumTo (fun k => f (k + 1)) m
 | 0 => by simp [sumTo]
 | m + 1 => by
  have := sumTo_shift f m
  simp only [sumTo] at this ⊢
  omega
theorem sumTo_add (f g : Nat → Nat) : ∀ m, sumTo (fun k => f k + g k) m = sumTo f m + sumTo g m
 | 0 => rfl
 | m + 1 => by
  have := sumTo_add f g m
  simp only [sumTo] at this ⊢
  omega
theorem sumTo_mul (c : Nat) (f : Nat → Nat) : ∀ m, sumTo (fun k => c * f k) m = c * sumTo f m
 | 0 => by simp [sumTo]
 | m + 1 => by
  have := sumTo_mul c f m
  simp only [sumTo, this, Nat.mul_add]
theorem sumTo_congr {f g : Nat → Nat} : ∀ m, (∀ k, k < m → f k = g k) → sumTo f m = sumTo g m
 | 0, _ => rfl
 | m + 1, h => by
  simp only [sumTo]
  rw [sumTo_congr m (fun k hk => h k (by omega)), h m (by omega)]
theorem binom (a : Nat) : ∀ n, (a + 1) ^ n = sumTo (fun k => ch n k * a ^ k) (n + 1)
 | 0 => by simp [sumTo, ch]
 | n + 1 => by
  have ih := binom a n
  have e1 : sumTo (fun k => ch (n + 1) k * a ^ k) (n + 1 + 1) = 1 + sumTo (fun k => ch (n + 1) (k + 1) * a ^ (k + 1)) (n + 1) := by
   rw [sumTo_shift]
   simp [ch]
  have e2 : sumTo (fun k => ch (n + 1) (k + 1) * a ^ (k + 1)) (n + 1) = a * sumTo (fun k => ch n k * a ^ k) (n + 1) + sumTo (fun k => ch n (k + 1) * a ^ (k + 1)) (n + 1) := by
   rw [← sumTo_mul, ← sumTo_add]
   refine sumTo_congr _ (fun k _ => ?_)
   show (ch n k + ch n (k + 1)) * a ^ (k + 1) = _
   rw [Nat.add_mul, q128, Nat.mul_left_comm a, q129 a]
  have e3 : sumTo (fun k => ch n k * a ^ k) (n + 1 + 1) = 1 + sumTo (fun k => ch n (k + 1) * a ^ (k + 1)) (n + 1) := by
   rw [sumTo_shift]
   cases n <;> simp [ch]
  have e4 : sumTo (fun k => ch n k * a ^ k) (n + 1 + 1) = sumTo (fun k => ch n k * a ^ k) (n + 1) := by
   simp [sumTo, ch_over n (n + 1) (by omega)]
  rw [q128, ih, e1, e2]
  rw [e4] at e3
  rw [Nat.mul_add, Nat.mul_one, q129 a]
  omega
theorem prime_ch {p k : Nat} (h : IsPrime p) (h0 : 0 < k) (hk : k < p) : p ∣ ch p k := by
 obtain ⟨k, rfl⟩ : ∃ j, k = j + 1 := ⟨k - 1, by omega⟩
 obtain ⟨n, rfl⟩ : ∃ n, p = n + 1 := ⟨p - 1, by omega⟩
 have hm := ch_mul n k
 rcases h.dvd_mul (a := k + 1) (b := ch (n + 1) (k + 1)) (hm ▸ Nat.dvd_mul_right _ _) with h1 | h1
 ·have := Nat.le_of_dvd (by omega) h1
  omega
 ·exact h1
theorem sumTo_dvd {p : Nat} {f : Nat → Nat} : ∀ m, (∀ k, k < m → p ∣ f k) → p ∣ sumTo f m
 | 0, _ => Nat.dvd_zero p
 | m + 1, h => Nat.dvd_add (sumTo_dvd m (fun k hk => h k (by omega))) (h m (by omega))
theorem fermat {p : Nat} (h : IsPrime p) : ∀ a, a ^ p % p = a % p
 | 0 => by
  rw [Nat.zero_pow (by have := h.1; omega)]
 | a + 1 => by
  have ih := fermat h a
  obtain ⟨n, rfl⟩ : ∃ n, p = n + 1 := ⟨p - 1, by have := h.1; omega⟩
  have hd : (n + 1) ∣ sumTo (fun k => ch (n + 1) (k + 1) * a ^ (k + 1)) n := sumTo_dvd n (fun k hk => Nat.dvd_trans (prime_ch h (by omega) (by omega)) (Nat.dvd_mul_right _ _))
  have e : (a + 1) ^ (n + 1) = 1 + sumTo (fun k => ch (n + 1) (k + 1) * a ^ (k + 1)) n + a ^ (n + 1) := by
   rw [binom, sumTo_shift]
   simp only [sumTo, ch_self]
   simp [ch]
   omega
  obtain ⟨t, ht⟩ := hd
  rw [e, ht]
  generalize a ^ (n + 1) = X at *
  generalize n + 1 = q at *
  rw [show 1 + q * t + X = 1 + X + q * t from by omega, Nat.add_mul_mod_self_left, Nat.add_mod, ih, ← Nat.add_mod, Nat.add_comm]
theorem fermat1 {p a : Nat} (h : IsPrime p) (ha : ¬ p ∣ a) : a ^ (p - 1) % p = 1 := by
 have hf := fermat h a
 have hp := h.1
 obtain ⟨n, rfl⟩ : ∃ n, p = n + 1 := ⟨p - 1, by omega⟩
 have ha0 : 0 < a := by
  rcases q150 a with e | e
  ·subst e
   exact absurd (Nat.dvd_zero _) ha
  ·exact e
 have hpos : 0 < a ^ n := Nat.pow_pos ha0
 rw [q128] at hf
 have hle : a ≤ a ^ n * a := Nat.le_mul_of_pos_left a hpos
 have hd : (n + 1) ∣ a ^ n * a - a := (Nat.dvd_iff_mod_eq_zero).2 (Nat.sub_mod_eq_zero_of_mod_eq hf)
 have e : a ^ n * a - a = a * (a ^ n - 1) := by rw [Nat.mul_sub, Nat.mul_one, q129 a]
 rw [e] at hd
 rcases h.dvd_mul hd with h1 | h1
 ·exact absurd h1 ha
 ·rw [Nat.add_sub_cancel]
  obtain ⟨t, ht⟩ := h1
  have : a ^ n = 1 + (n + 1) * t := by omega
  rw [this, Nat.add_mul_mod_self_left]
  exact q120 (by omega)
end
