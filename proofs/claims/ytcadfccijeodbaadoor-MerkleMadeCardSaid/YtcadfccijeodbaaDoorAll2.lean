/- Texts that belong together, one behind the other; each says in its own first remark what it shows. -/
import Derived.Test.YtcadfccijeodbaaDoorAll1
import Derived.Deep.MidRow
import Derived.Great.BuildSlice
import Derived.Deep.RegionHeld
import Derived.Laws.Tables
import Derived.Laws.AppendOwn
import Derived.Test.YtcadfccijeodbaaDoorProg
import Derived.ProofKit
import Derived.Deep.CutRange
import Derived.Deep.RegionWith
import Derived.StillTailTactics
import Derived.Deep.QuietTactic
import Derived.BigQuiet
import Derived.Laws.CopyOwn

/- Slices whose elements are 32 bytes each (api.Num), read as lists of lists. Nothing here speaks of a program. Each theorem names its own conditions. -/
namespace Go.Proofs.YtcadfccijeodbaaDoor
open Go.ChangeShapes Go.WideShapes Go.RowKit
set_option linter.unusedVariables false

def Nums (ps : List (List UInt8)) : Prop := ∀ p ∈ ps, p.length = 32
theorem Nums.nil : Nums [] := fun p h => by cases h
theorem Nums.append {a b : List (List UInt8)} (ha : Nums a) (hb : Nums b) : Nums (a ++ b) := fun p h => (List.mem_append.1 h).elim (ha p) (hb p)
theorem Nums.one {p : List UInt8} (h : p.length = 32) : Nums [p] := fun q hq => by rw [List.mem_singleton.1 hq]; exact h
theorem Nums.take {a : List (List UInt8)} (ha : Nums a) (n : Nat) : Nums (a.take n) := fun p h => ha p (List.mem_of_mem_take h)
theorem Nums.dropLast {a : List (List UInt8)} (ha : Nums a) : Nums a.dropLast := fun p h => ha p (List.dropLast_subset a h)
theorem Nums.getD {a : List (List UInt8)} (ha : Nums a) {i : Nat} (hi : i < a.length) : (a.getD i []).length = 32 := by
  rw [List.getD_eq_getElem?_getD, List.getElem?_eq_getElem hi]
  exact ha _ (List.getElem_mem hi)
theorem Nums.set {a : List (List UInt8)} (ha : Nums a) (i : Nat) {p : List UInt8} (h : p.length = 32) : Nums (a.set i p) := fun q hq => (List.mem_or_eq_of_mem_set hq).elim (ha q) (fun e => by rw [e]; exact h)
theorem flat_length : ∀ {ps : List (List UInt8)}, Nums ps → ps.flatten.length = 32 * ps.length
  | [], _ => rfl
  | p :: ps, h => by
    rw [List.flatten_cons, List.length_append, List.length_cons, h p (List.mem_cons_self ..), flat_length (fun q hq => h q (List.mem_cons_of_mem _ hq))]
    omega
theorem flat_get : ∀ {ps : List (List UInt8)}, Nums ps → ∀ {i j : Nat}, i < ps.length → j < 32 → ps.flatten[32 * i + j]? = (ps.getD i [])[j]?
  | [], _, i, j, hi, _ => by simp at hi
  | p :: ps, h, 0, j, _, hj => by
    have hp := h p (List.mem_cons_self ..)
    rw [List.flatten_cons, Nat.mul_zero, Nat.zero_add, List.getElem?_append_left (by omega)]
    rfl
  | p :: ps, h, i + 1, j, hi, hj => by
    have hp := h p (List.mem_cons_self ..)
    rw [List.flatten_cons, List.getElem?_append_right (by omega), hp, show 32 * (i + 1) + j - 32 = 32 * i + j by omega,
      flat_get (fun q hq => h q (List.mem_cons_of_mem _ hq)) (by simpa using hi) hj]
    rfl
theorem flat_take : ∀ {ps : List (List UInt8)}, Nums ps → ∀ (n : Nat), (ps.take n).flatten = ps.flatten.take (32 * n)
  | [], _, n => by simp
  | p :: ps, h, 0 => by simp
  | p :: ps, h, n + 1 => by
    have hp := h p (List.mem_cons_self ..)
    rw [List.take_succ_cons, List.flatten_cons, List.flatten_cons, flat_take (fun q hq => h q (List.mem_cons_of_mem _ hq)) n, List.take_append, hp,
      show 32 * (n + 1) - 32 = 32 * n by omega, List.take_of_length_le (l := p) (by omega)]
theorem flat_snoc (ps : List (List UInt8)) (p : List UInt8) : (ps ++ [p]).flatten = ps.flatten ++ p := by simp

/-- A slice of numbers reads as the list of them. -/
def RowN (w : World) (v : Value) (ps : List (List UInt8)) : Prop :=
  Nums ps ∧ ∃ a cap, v = .slice a ps.length cap ∧ ps.length ≤ cap ∧ cap ≤ maxLen ∧ (a = none → cap = 0) ∧ (ps ≠ [] → ∃ b off, a = some ⟨b, off, none⟩ ∧ b < w.heap.size ∧ ∀ i, i < 32 * ps.length → w.cell? ⟨b, off + i, none⟩ = (ps.flatten.map bval)[i]?)

section
variable {P : Program} {w w' : World} {v : Value} {ps : List (List UInt8)}
theorem RowN.nums (h : RowN w v ps) : Nums ps := h.1
theorem RowN.nil (w : World) : RowN w (.slice none 0 0) [] := ⟨Nums.nil, none, 0, rfl, Nat.le_refl _, Nat.zero_le _, fun _ => rfl, fun h => absurd rfl h⟩
theorem RowN.same (h : RowN w v ps) (hs : w.heap.size ≤ w'.heap.size) (hc : ∀ p : Addr, v.ownBlock = some p.block → p.block < w.heap.size → w'.cell? p = w.cell? p) : RowN w' v ps := by
  obtain ⟨h0, a, cap, rfl, h1, h2, h3, h4⟩ := h
  refine ⟨h0, a, cap, rfl, h1, h2, h3, fun hne => ?_⟩
  obtain ⟨b, off, rfl, hb, hcell⟩ := h4 hne
  exact ⟨b, off, rfl, Nat.lt_of_lt_of_le hb hs, fun i hi => (hc ⟨b, off + i, none⟩ rfl hb).trans (hcell i hi)⟩
theorem RowN.below (h : RowN w v ps) (hb : Below w.heap.size w w') : RowN w' v ps := h.same hb.size fun _ _ hp => hb.cell hp
theorem RowN.grown {row : Option Nat} (h : RowN w v ps) (hg : w.grownBy w' row) (hne : ∀ k, row = some k → v.ownBlock ≠ some k) : RowN w' v ps :=
  h.same hg.size fun p hp hlt => hg.cell_far p hlt fun e => hne p.block e.symm hp
theorem RowN.form (h : RowN w v ps) : ∃ a cap, v = .slice a ps.length cap ∧ ps.length ≤ cap ∧ cap ≤ maxLen := by
  obtain ⟨_, a, cap, h1, h2, h3, _⟩ := h
  exact ⟨a, cap, h1, h2, h3⟩
/-- A row of the call's own reads as its numbers. -/
theorem RowN.of_own {base : Nat} {e : TypeId} {n : Nat} {vs : List Value} (h : w.ownsRow base e 32 v n vs) (hp : Nums ps) (hn : n = ps.length) (hv : vs = ps.flatten.map bval) : RowN w v ps := by
  subst hv; subst hn
  have hl : (ps.flatten.map bval).length = 32 * ps.length := by rw [List.length_map, flat_length hp]
  rcases h.2 with ⟨rfl, h0⟩ | ⟨g, cap, cur, rfl, hb, hg, h1, h2, _, _⟩
  · have : ps = [] := List.eq_nil_of_length_eq_zero h0
    subst this
    exact RowN.nil w
  · refine ⟨hp, some ⟨g, 0, none⟩, cap, rfl, by omega, h2, (fun e => by cases e), fun _ => ⟨g, 0, rfl, (h.lt g rfl).2, fun i hi => ?_⟩⟩
    rw [Nat.zero_add]
    exact h.cellAt i (by omega)
/-- Where an element lies. -/
theorem RowN.elem {a : Option Addr} {n cap : Nat} (h : RowN w (.slice a n cap) ps) (hne : 0 < ps.length) : ∃ b off, a = some ⟨b, off, none⟩ ∧ b < w.heap.size ∧ ∀ i, i < ps.length → w.rangeAt b (off + i * 32) ((ps.getD i []).map bval) := by
  obtain ⟨h0, a', cap', he, h1, h2, h3, h4⟩ := h
  injection he with e1 e2 e3
  subst e1
  obtain ⟨b, off, ha, hb, hc⟩ := h4 (by rintro rfl; simp at hne)
  refine ⟨b, off, ha, hb, fun i hi j v hj => ?_⟩
  have hl : (ps.getD i []).length = 32 := Nums.getD h0 hi
  have hj2 : j < 32 := by
    rcases Nat.lt_or_ge j 32 with h' | h'
    · exact h'
    · rw [List.getElem?_eq_none (by rw [List.length_map]; omega)] at hj; cases hj
  rw [Nat.add_assoc, Nat.mul_comm i 32, hc (32 * i + j) (by omega), List.getElem?_map, flat_get h0 hi hj2, ← hj, List.getElem?_map]
/-- s[:k]. -/
theorem RowN.upto {t e : TypeId} (ht : P.underlying t = some (.slice e)) (hs : ∀ w, (sizeOf e).run P w = .ok 32 w) (h : RowN w v ps) (k : Nat) (hk : k ≤ ps.length) :
    ∃ v', RowN w v' (ps.take k) ∧ ∀ w', (Instr.sliceAt t v none (some (.int .i64 (k : Int))) none).run P w' = .ok v' w' := by
  obtain ⟨h0, a, cap, rfl, h1, h2, h3, h4⟩ := h
  have e2 : P.elem t = e := by unfold Program.elem; rw [ht]
  have ht2 : P.underlying t = some (.slice (P.elem t)) := by rw [e2]; exact ht
  have hl : (ps.take k).length = k := by rw [List.length_take]; omega
  refine ⟨sliced a 0 k cap 32, ?_, fun w' => ?_⟩
  · unfold sliced
    by_cases hc : cap = 0
    · rw [if_pos hc]
      refine ⟨h0.take k, a, cap - 0, by rw [hl]; rfl, by rw [hl]; omega, by omega, fun e => by have := h3 e; omega, fun hne => ?_⟩
      exfalso
      exact hne (List.eq_nil_of_length_eq_zero (by omega))
    · rw [if_neg hc]
      refine ⟨h0.take k, a.map (·.add (0 * 32)), cap - 0, by rw [hl]; rfl, by rw [hl]; omega, by omega, fun e => ?_, fun hne => ?_⟩
      · cases a with
        | none => have := h3 rfl; omega
        | some a => cases e
      · obtain ⟨b, off, rfl, g1, g2⟩ := h4 (by rintro rfl; simp at hne)
        refine ⟨b, off, by rw [Option.map_some, WideShapes.add_plain, Nat.zero_mul, Nat.add_zero], g1, fun i hi => ?_⟩
        rw [hl] at hi
        rw [g2 i (by omega), List.getElem?_map, List.getElem?_map, flat_take h0, List.getElem?_take, if_pos hi]
  · rw [run_sliceAt_slice w' t _ _ _ _ ht2, run_slice_h (ht := ht2) (kh := .i64) (h := (k : Int)) (h0 := by omega) (h2 := by omega), e2, hs]
    simp
end

section
variable {H : Type} {enc : TypeId × Value → H} {P : Program} {W : World}
theorem cells_of_num {t e : TypeId} {fuel : Nat} {cs : List Value} {x : DataW H × List MemPlace} (ht : P.underlying t = some (.array 32 e)) (he : P.underlying e = some (.int .u8)) (hc : P.cellsOf e = 1) (hct : P.cellsOf t = 32)
    (h : DataW.trod enc P W 0 (fun _ => true) true fuel t cs = some x) : ∃ l : List UInt8, cs = l.map bval ∧ l.length = 32 := by
  obtain ⟨xs, m, _, _, hl, hxl, hx⟩ := DataW.trod_array ht h
  rw [hct] at hl
  have hone : ∀ c ∈ cs, ∃ n y, DataW.trod enc P W 0 (fun _ => true) true n e [c] = some y := fun c hcm => by
    obtain ⟨i, hi, rfl⟩ := List.getElem_of_mem hcm
    have := hx i (by omega)
    rw [hc, Nat.mul_one] at this
    refine ⟨m, xs[i]'(by omega), ?_⟩
    rw [List.getElem?_eq_getElem (by omega)] at this
    rw [← this]
    congr 1
    show [cs[i]] = (cs.drop i).take 1
    rw [List.drop_eq_getElem_cons hi]
    rfl
  obtain ⟨zs, hz, hw⟩ := list_of_all (f := Value.int .u8) (p := fun n => (Lit.int .u8 n).wf = true) (fun x hx => by
    obtain ⟨n, y, h⟩ := hone x hx
    exact cell_int he h)
  subst hz
  obtain ⟨l, e⟩ := bytes_of_ints hw
  refine ⟨l, e, ?_⟩
  have := congrArg List.length e
  rw [List.length_map, List.length_map] at this
  rw [List.length_map] at hl
  omega
/-- A slice of numbers, opened. -/
theorem open_nums {base0 : Nat} {r : Reach} {t q e : TypeId} {v : Value} {d : DataW H} {ps : List MemPlace} (ht : P.underlying t = some (.slice q)) (hq : P.underlying q = some (.array 32 e)) (he : P.underlying e = some (.int .u8)) (hc : P.cellsOf e = 1) (hcq : P.cellsOf q = 32)
    (hval : Value.okWide P W r base0 t v) (hd : DataW.Trod enc P W 0 (fun _ => true) true t v d ps) : ∃ l : List (List UInt8), RowN W v l := by
  obtain ⟨a, len, cap, rfl⟩ := okWide_slice ht hval
  obtain ⟨fuel, hf⟩ := hd
  have hf2 : DataW.trod enc P W 0 (fun _ => true) true fuel t [.slice a len cap] = some (d, ps) := by simpa [Value.cells] using hf
  rcases Deep.open_slice ht hf2 with ⟨hcs, _⟩ | ⟨a1, len1, cap1, m, n, D, Pl, hcs, hb, hl, hm, hmm, _, hx⟩
  · have hv : (Value.slice a len cap) = .slice none 0 0 := by simpa using hcs
    rw [hv]
    exact ⟨[], RowN.nil W⟩
  · have hv : (Value.slice a len cap) = .slice (some a1) len1 cap1 := by simpa using hcs
    rw [hv]
    simp only [if_true] at hmm
    have hspot : 0 < len1 → a1.spot = none := fun h0 => by
      obtain ⟨cs', h1, h2⟩ := hx 0 (by omega)
      rw [hcq] at h1
      obtain ⟨l, rfl, hll⟩ := cells_of_num hq he hc hcq h2
      obtain ⟨_, _, h3⟩ := World.cells?_some h1
      have h4 := h3 0 (by omega)
      rw [List.getElem?_eq_getElem (by rw [List.length_map]; omega)] at h4
      simpa [Addr.add] using World.cell?_spot h4
    obtain ⟨b, off, spot⟩ := a1
    have hel : ∀ i, i < len1 → ∃ l : List UInt8, l.length = 32 ∧ ∀ j, j < 32 → W.cell? ⟨b, off + (i * 32 + j), none⟩ = (l.map bval)[j]? := fun i hi => by
      obtain ⟨cs', h1, h2⟩ := hx i (by omega)
      rw [hcq] at h1
      obtain ⟨l, rfl, hll⟩ := cells_of_num hq he hc hcq h2
      obtain ⟨_, _, h3⟩ := World.cells?_some h1
      obtain rfl : spot = none := hspot (by omega)
      exact ⟨l, hll, fun j hj => by rw [← h3 j hj, WideShapes.add_plain, WideShapes.add_plain, Nat.add_assoc]⟩
    obtain ⟨f, hf⟩ := Deep.choose_lt hel
    have hps : ∀ i, i < len1 → ((List.range len1).map f).getD i [] = f i := fun i hi => by
      rw [List.getD_eq_getElem?_getD, List.getElem?_map, List.getElem?_range hi]
      rfl
    have hnum : Nums ((List.range len1).map f) := fun p hp => by
      obtain ⟨i, hi, rfl⟩ := List.mem_map.1 hp
      exact (hf i (by simpa using hi)).1
    refine ⟨(List.range len1).map f, hnum, some ⟨b, off, spot⟩, cap1, by simp, by simpa using hl, hm, (fun e => by cases e), fun hne => ?_⟩
    have h0 : 0 < len1 := by
      rcases Nat.eq_zero_or_pos len1 with h | h
      · subst h; exact absurd rfl hne
      · exact h
    have hc0 := (hf 0 h0).2 0 (by omega)
    rw [List.getElem?_eq_getElem (by rw [List.length_map, (hf 0 h0).1]; omega)] at hc0
    obtain rfl : spot = none := hspot h0
    refine ⟨b, off, rfl, World.block_lt_of_cell? W _ hc0, fun i hi => ?_⟩
    have hlen : ((List.range len1).map f).length = len1 := by simp
    rw [hlen] at hi
    have hd1 : i / 32 < len1 := by omega
    have hd2 : i % 32 < 32 := Nat.mod_lt _ (by omega)
    have hi3 : 32 * (i / 32) + i % 32 = i := by omega
    have h5 := flat_get hnum (i := i / 32) (j := i % 32) (by rw [hlen]; exact hd1) hd2
    rw [hi3, hps _ hd1] at h5
    rw [List.getElem?_map, h5, ← List.getElem?_map, ← (hf (i / 32) hd1).2 (i % 32) hd2]
    congr 3
    omega
end

end Go.Proofs.YtcadfccijeodbaaDoor

/- Further ends of a drawn region: two variables made in whatever order; a store and an assignment. Nothing here speaks of a program. Each theorem names its own conditions. -/
namespace Go.Proofs.YtcadfccijeodbaaDoor
open Go.RowKit
set_option linter.unusedVariables false

section
variable {P : Program} {ops : Array Oper} {Q : Exit → Act → World → Prop} {md : Region.Mode} {t : Nat} {C : World → Prop} {D : Act → Prop}

theorem run_alloc_zero {o : Oper} {a : Act} {ty : TypeId} {zs : List Value} (ho : o.op = .alloc ty) (hz : ∀ w, (zeroValue ty).run P w = .ok (.agg zs.toArray) w) (w : World) :
    (execOp a.eval o).run P w = .ok (.value (.pointer (some ⟨w.heap.size, 0, none⟩))) (w.alloc (.cells zs.toArray ty)) := by
  unfold execOp
  simp [ho, Instr.alloc, hz, newVar, newRow, Value.cells]

/-- The two stores into two variables that stand apart. -/
theorem two_stores {k : Nat} {o3 o4 : Oper} {listed : Array Bool} {a : Act} {w w' : World} (ty : TypeId) (d1 d2 p q : Nat) (y1 y2 : Operand) (zs vs1 vs2 : List Value) (hk3 : ops[k]? = some o3) (hk4 : ops[k + 1]? = some o4)
    (hr : Region.ready md ops listed = [k]) (hr2 : Region.ready md ops (listed.setIfInBounds k true) = [k + 1]) (hr3 : Region.ready md ops ((listed.setIfInBounds k true).setIfInBounds (k + 1) true) = [])
    (hg3 : o3.guard = none) (hg4 : o4.guard = none) (ho3 : o3.op = .store ty (.tmp d1) y1) (ho4 : o4.op = .store ty (.tmp d2) y2) (hn3 : o3.dst = none) (hn4 : o4.dst = none)
    (hx1 : a.eval (.tmp d1) = .pointer (some ⟨p, 0, none⟩)) (hx2 : a.eval (.tmp d2) = .pointer (some ⟨q, 0, none⟩)) (hy1 : a.eval y1 = .agg vs1.toArray) (hy2 : a.eval y2 = .agg vs2.toArray) (hpq : p ≠ q)
    (hb1 : Blk w' p zs ty) (hb2 : Blk w' q zs ty) (hl1 : vs1.length = zs.length) (hl2 : vs2.length = zs.length) (hi1 : (P.info? ty).map (·.size) = some vs1.length) (hi2 : (P.info? ty).map (·.size) = some vs2.length)
    (h1 : ∀ v ∈ vs1, v.oneCell' = true) (h2 : ∀ v ∈ vs2, v.oneCell' = true) (he : Ext w w') (hp : w.heap.size ≤ p) (hq : w.heap.size ≤ q)
    (h : ∀ w4, Blk w4 p vs1 ty → Blk w4 q vs2 ty → Ext w w4 → Q .normal a w4) : wpAny P md ops Q 2 listed a w' := by
  refine ⟨fun h0 => (by rw [hr] at h0; cases h0), fun i hi => ?_⟩
  rw [hr] at hi
  obtain rfl : i = k := by simpa using hi
  unfold wpOp
  simp only [hk3, Region.wanted, hg3, if_true]
  left
  refine wp_store_blk ty (.tmp d1) y1 ho3 p vs1 hx1 hy1 ty zs hb1 hl1 hi1 h1 fun w2 hb3 hg => ?_
  rw [hn3]
  refine ⟨fun h0 => (by rw [hr2] at h0; cases h0), fun j hj => ?_⟩
  rw [hr2] at hj
  obtain rfl : j = i + 1 := by simpa using hj
  unfold wpOp
  simp only [hk4, Region.wanted, hg4, if_true]
  left
  refine wp_store_blk ty (.tmp d2) y2 ho4 q vs2 hx2 hy2 ty zs (hb2.grown hg (by simpa using hpq)) hl2 hi2 h2 fun w4 hb4 hg4 => ?_
  rw [hn4]
  exact ⟨hr3, h w4 (hb3.grown hg4 (by simpa using fun e => hpq e.symm)) hb4 (ext_grown (ext_grown he hg hp) hg4 hq)⟩

/-- Two variables are made, in whatever order, and a whole array stored into each: the region's end. -/
theorem end_var2 {k : Nat} {o1 o2 o3 o4 : Oper} {listed : Array Bool} {a : Act} {w : World} (ty : TypeId) (d1 d2 : Nat) (y1 y2 : Operand) (zs vs1 vs2 : List Value)
    (hk1 : ops[k]? = some o1) (hk2 : ops[k + 1]? = some o2) (hk3 : ops[k + 2]? = some o3) (hk4 : ops[k + 2 + 1]? = some o4)
    (hr : Region.ready md ops listed = [k, k + 1]) (hr1 : Region.ready md ops (listed.setIfInBounds k true) = [k + 1]) (hr2 : Region.ready md ops (listed.setIfInBounds (k + 1) true) = [k])
    (hr3 : Region.ready md ops ((listed.setIfInBounds k true).setIfInBounds (k + 1) true) = [k + 2]) (hr4 : Region.ready md ops (((listed.setIfInBounds k true).setIfInBounds (k + 1) true).setIfInBounds (k + 2) true) = [k + 2 + 1])
    (hr5 : Region.ready md ops ((((listed.setIfInBounds k true).setIfInBounds (k + 1) true).setIfInBounds (k + 2) true).setIfInBounds (k + 2 + 1) true) = [])
    (hd : doneB t listed = false) (hd1 : doneB t (listed.setIfInBounds k true) = false) (hd2 : doneB t (listed.setIfInBounds (k + 1) true) = false) (hd3 : doneB t ((listed.setIfInBounds k true).setIfInBounds (k + 1) true) = true)
    (hg1 : o1.guard = none) (hg2 : o2.guard = none) (hg3 : o3.guard = none) (hg4 : o4.guard = none) (ho1 : o1.op = .alloc ty) (ho2 : o2.op = .alloc ty) (hd1' : o1.dst = some d1) (hd2' : o2.dst = some d2) (hdd : d1 ≠ d2)
    (hz : ∀ w, (zeroValue ty).run P w = .ok (.agg zs.toArray) w) (ho3 : o3.op = .store ty (.tmp d1) y1) (ho4 : o4.op = .store ty (.tmp d2) y2) (hn3 : o3.dst = none) (hn4 : o4.dst = none) (hs1 : d1 < a.tmps.size) (hs2 : d2 < a.tmps.size)
    (hy1 : ∀ p q, ((a.put (some d1) (.pointer (some ⟨p, 0, none⟩))).put (some d2) (.pointer (some ⟨q, 0, none⟩))).eval y1 = .agg vs1.toArray)
    (hy2 : ∀ p q, ((a.put (some d1) (.pointer (some ⟨p, 0, none⟩))).put (some d2) (.pointer (some ⟨q, 0, none⟩))).eval y2 = .agg vs2.toArray)
    (hl1 : vs1.length = zs.length) (hl2 : vs2.length = zs.length) (hi1 : (P.info? ty).map (·.size) = some vs1.length) (hi2 : (P.info? ty).map (·.size) = some vs2.length) (h1 : ∀ v ∈ vs1, v.oneCell' = true) (h2 : ∀ v ∈ vs2, v.oneCell' = true)
    (h : ∀ p q w', p ≠ q → w.heap.size ≤ p → w.heap.size ≤ q → Blk w' p vs1 ty → Blk w' q vs2 ty → Ext w w' → Q .normal ((a.put (some d1) (.pointer (some ⟨p, 0, none⟩))).put (some d2) (.pointer (some ⟨q, 0, none⟩))) w') :
    wpAnyB P md ops Q t 4 listed a w.drew := by
  have tail : ∀ p q w', Blk w' p zs ty → Blk w' q zs ty → p ≠ q → w.heap.size ≤ p → w.heap.size ≤ q → Ext w w' →
      wpAny P md ops Q 2 ((listed.setIfInBounds k true).setIfInBounds (k + 1) true) ((a.put (some d1) (.pointer (some ⟨p, 0, none⟩))).put (some d2) (.pointer (some ⟨q, 0, none⟩))) w' := by
    intro p q w' b1 b2 hpq hp hq he
    refine two_stores ty d1 d2 p q y1 y2 zs vs1 vs2 hk3 hk4 hr3 hr4 hr5 hg3 hg4 ho3 ho4 hn3 hn4 ?_ ?_ (hy1 p q) (hy2 p q) hpq b1 b2 hl1 hl2 hi1 hi2 h1 h2 he hp hq (fun w4 b3 b4 e4 => h p q w4 hpq hp hq b3 b4 e4)
    · simp [Act.eval, Act.put, hs1, Ne.symm hdd]
    · simp [Act.eval, Act.put, hs2]
  refine ⟨fun h0 => (by rw [hd] at h0; cases h0), fun _ w1 hw1 => ⟨by rw [hr]; simp, fun i hi => ?_⟩⟩
  rw [hr] at hi
  have he1 : Ext w w1 := (Ext.drew w).trans hw1
  simp only [List.mem_cons, List.not_mem_nil, or_false] at hi
  rcases hi with rfl | rfl
  · unfold wpOp
    simp only [hk1, Region.wanted, hg1, if_true]
    left
    unfold Oper.wp
    rw [run_alloc_zero ho1 hz]
    simp only [Oper.upon, hd1']
    refine ⟨Ext.alloc _ _, fun h0 => (by rw [hd1] at h0; cases h0), fun _ w2 hw2 => ⟨by rw [hr1]; simp, fun j hj => ?_⟩⟩
    rw [hr1] at hj
    obtain rfl : j = i + 1 := by simpa using hj
    have hb1 : Blk w2 w1.heap.size zs ty := ext_blk (Blk.made w1 zs ty) hw2
    unfold wpOp
    simp only [hk2, Region.wanted, hg2, if_true]
    left
    unfold Oper.wp
    rw [run_alloc_zero ho2 hz]
    simp only [Oper.upon, hd2']
    refine ⟨Ext.alloc _ _, fun _ w3 hw3 => ?_, fun h0 => (by rw [hd3] at h0; cases h0)⟩
    refine tail _ _ w3 (ext_blk (ext_blk hb1 (Ext.alloc w2 _)) hw3) (ext_blk (Blk.made w2 zs ty) hw3) (by have := hb1.lt; omega) he1.size (Nat.le_trans he1.size (Nat.le_of_lt hb1.lt)) (((he1.trans (Ext.alloc _ _)).trans hw2).trans ((Ext.alloc _ _).trans hw3))
  · unfold wpOp
    simp only [hk2, Region.wanted, hg2, if_true]
    left
    unfold Oper.wp
    rw [run_alloc_zero ho2 hz]
    simp only [Oper.upon, hd2']
    refine ⟨Ext.alloc _ _, fun h0 => (by rw [hd2] at h0; cases h0), fun _ w2 hw2 => ⟨by rw [hr2]; simp, fun j hj => ?_⟩⟩
    rw [hr2] at hj
    obtain rfl : j = k := by simpa using hj
    have hb1 : Blk w2 w1.heap.size zs ty := ext_blk (Blk.made w1 zs ty) hw2
    unfold wpOp
    simp only [hk1, Region.wanted, hg1, if_true]
    left
    unfold Oper.wp
    rw [run_alloc_zero ho1 hz]
    simp only [Oper.upon, hd1']
    rw [Array.setIfInBounds_comm _ _ (by omega : j + 1 ≠ j), Act.put_comm a _ _ (by simpa using fun e => hdd e)]
    refine ⟨Ext.alloc _ _, fun _ w3 hw3 => ?_, fun h0 => (by rw [hd3] at h0; cases h0)⟩
    refine tail _ _ w3 (ext_blk (Blk.made w2 zs ty) hw3) (ext_blk (ext_blk hb1 (Ext.alloc w2 _)) hw3) (by have := hb1.lt; omega) (Nat.le_trans he1.size (Nat.le_of_lt hb1.lt)) he1.size (((he1.trans (Ext.alloc _ _)).trans hw2).trans ((Ext.alloc _ _).trans hw3))

/-- A whole array is stored into what stands, and a value assigned: the region's end. -/
theorem end_set_assign {k : Nat} {o o2 : Oper} {listed : Array Bool} {a : Act} {w : World} (ty tb : TypeId) (x y z : Operand) (d : Nat) (u : Value) (c : Nat) (vs cs : List Value) (hk : ops[k]? = some o) (hk2 : ops[k + 1]? = some o2) (hr : Region.ready md ops listed = [k]) (hr2 : Region.ready md ops (listed.setIfInBounds k true) = [k + 1])
    (hr3 : Region.ready md ops ((listed.setIfInBounds k true).setIfInBounds (k + 1) true) = []) (hd : doneB t listed = true) (hg : o.guard = none) (hg2 : o2.guard = none) (hn : o.dst = none)
    (ho : o.op = .store ty x y) (hx : a.eval x = .pointer (some ⟨c, 0, none⟩)) (hy : a.eval y = .agg vs.toArray) (hb : Blk w c cs tb) (hl : vs.length = cs.length) (hi : (P.info? ty).map (·.size) = some vs.length) (h1 : ∀ v ∈ vs, v.oneCell' = true)
    (ho2 : o2.op = .assign z) (hd2 : o2.dst = some d) (hz : a.eval z = u) (h : ∀ w', Blk w' c vs tb → w.grownBy w' (some c) → Q .normal (a.put (some d) u) w') : wpAnyB P md ops Q t 2 listed a w.drew := by
  refine ⟨fun _ w' hw' => ⟨fun h0 => (by rw [hr] at h0; cases h0), fun i hi' => ?_⟩, fun h0 => (by rw [hd] at h0; cases h0)⟩
  rw [hr] at hi'
  obtain rfl : i = k := by simpa using hi'
  have he : Ext w w' := (Ext.drew w).trans hw'
  unfold wpOp
  simp only [hk, Region.wanted, hg, if_true]
  left
  refine wp_store_blk ty x y ho c vs hx hy tb cs (ext_blk hb he) hl hi h1 fun w2 hb2 hg2' => ?_
  rw [hn]
  refine ⟨fun h0 => (by rw [hr2] at h0; cases h0), fun j hj => ?_⟩
  rw [hr2] at hj
  obtain rfl : j = i + 1 := by simpa using hj
  unfold wpOp
  simp only [hk2, Region.wanted, hg2, if_true]
  left
  unfold Oper.wp execOp
  have hz' : (Act.put a none undef).eval z = u := hz
  simp only [ho2, hz', Sem.run_pure, Oper.upon, hd2]
  exact ⟨hr3, h w2 hb2 (grownBy_trans (grown_of_below he _) hg2')⟩
end

end Go.Proofs.YtcadfccijeodbaaDoor

/- The last operations of a drawn region, one behind the other: each the only one that may come. Nothing here speaks of a program. Each theorem names its own conditions. -/
namespace Go.Proofs.YtcadfccijeodbaaDoor
open Go.RowKit
set_option linter.unusedVariables false

section
variable {P : Program} {ops : Array Oper} {Q : Exit → Act → World → Prop} {md : Region.Mode} {t : Nat}
/-- The first part is done: what is left, in whatever world has come of it. -/
theorem end_free {m : Nat} {listed : Array Bool} {a : Act} {w : World} (hd : doneB t listed = true) (h0 : Region.ready md ops listed ≠ []) (h : ∀ w', Ext w w' → wpAny P md ops Q (m + 1) listed a w') : wpAnyB P md ops Q t (m + 1) listed a w.drew :=
  ⟨fun _ w' hw' => h w' ((Ext.drew w).trans hw'), fun h' => by rw [hd] at h'; cases h'⟩
theorem anyB_done {m : Nat} {listed : Array Bool} {a : Act} {w : World} (hd : doneB t listed = true) (h : ∀ w', Ext w w' → wpAny P md ops Q (m + 1) listed a w') : wpAnyB P md ops Q t (m + 1) listed a w :=
  ⟨fun _ w' hw' => h w' hw', fun h' => by rw [hd] at h'; cases h'⟩
/-- One operation of the first part is owed, which leaves old memory alone. -/
theorem end_step {m k : Nat} {o : Oper} {listed : Array Bool} {a : Act} {w : World} (hk : ops[k]? = some o) (hr : Region.ready md ops listed = [k]) (hd : doneB t listed = false) (hg : o.guard = none)
    (h : ∀ w', Ext w w' → o.wp P a w' (fun a' w'' => Ext w' w'' ∧ wpAnyB P md ops Q t m (listed.setIfInBounds k true) a' w'') Q) : wpAnyB P md ops Q t (m + 1) listed a w.drew := by
  refine ⟨fun h0 => (by rw [hd] at h0; cases h0), fun _ w' hw' => ⟨by rw [hr]; simp, fun i hi => ?_⟩⟩
  rw [hr] at hi
  obtain rfl : i = k := by simpa using hi
  unfold wpOp
  simp only [hk, Region.wanted, hg, if_true]
  exact Or.inl (h w' ((Ext.drew w).trans hw'))
/-- One operation alone may come. -/
theorem any_one {m k : Nat} {o : Oper} {listed : Array Bool} {a : Act} {w : World} (hk : ops[k]? = some o) (hr : Region.ready md ops listed = [k]) (hg : o.guard = none)
    (h : o.wp P a w (fun a' w'' => wpAny P md ops Q m (listed.setIfInBounds k true) a' w'') Q) : wpAny P md ops Q (m + 1) listed a w := by
  refine ⟨fun h0 => (by rw [hr] at h0; cases h0), fun i hi => ?_⟩
  rw [hr] at hi
  obtain rfl : i = k := by simpa using hi
  unfold wpOp
  simp only [hk, Region.wanted, hg, if_true]
  exact Or.inl h
theorem any_nil {listed : Array Bool} {a : Act} {w : World} (hr : Region.ready md ops listed = []) (h : Q .normal a w) : wpAny P md ops Q 0 listed a w := ⟨hr, h⟩
theorem wp_assign {o : Oper} {a : Act} {w : World} {K : Act → World → Prop} (x : Operand) (v : Value) (ho : o.op = .assign x) (hx : a.eval x = v) (h : K (a.put o.dst v) w) : o.wp P a w K Q := by
  unfold Oper.wp execOp
  simp only [ho, hx, Sem.run_pure]
  exact h

/-- The laws, where the temporary is named. -/
theorem wp_assign_d {o : Oper} {a : Act} {w : World} {K : Act → World → Prop} (d : Option Nat) (x : Operand) (v : Value) (hd : o.dst = d) (ho : o.op = .assign x) (hx : a.eval x = v) (h : K (a.put d v) w) : o.wp P a w K Q := by
  subst hd
  exact wp_assign x v ho hx h
theorem wp_buildSlice_d {o : Oper} {a : Act} {w : World} {K : Act → World → Prop} (d : Option Nat) (t e : TypeId) (len : Nat) (parts : Array (Nat × Operand)) (hd : o.dst = d) (ho : o.op = .buildSlice t len parts)
    (cells : Array Value) (ie : TypeInfo) (z : Value)
    (hu : P.underlying t = some (.slice e)) (hie : P.info? e = some ie) (hz : ie.zero = some z) (hsmall : ¬ len * ie.size > 2 ^ 24) (hpos : ¬ len * ie.size = 0)
    (hf : Instr.fill (fun i => some (i * ie.size, ie.size)) ((Array.range (len * ie.size)).map (z.cells[· % z.cells.size]!)) (parts.map fun (i, x) => (i, a.eval x)).toList = some cells)
    (h : K (a.put d (.slice (some ⟨w.heap.size, 0, none⟩) len len)) (w.alloc (.cells cells e))) : o.wp P a w K Q := by
  subst hd
  exact wp_buildSlice t e len parts ho cells ie z hu hie hz hsmall hpos hf h
theorem wp_append_row_d {o : Oper} {a : Act} {w : World} {v : Value} {vs : List Value} {K : Act → World → Prop} (d : Option Nat) (s y : Operand) (t : TypeId) (hd : o.dst = d)
    (ho : o.op = .call { callee := .builtin .append, args := #[s, y], argTypes := #[t, t] })
    (base : Nat) (e : TypeId) (i : TypeInfo) (z : Value) (bytes : Nat) (ht : P.underlying t = some (.slice e)) (hi : P.info? e = some i) (hz : i.zero = some z)
    (hsize : i.size = 1) (hby : i.bytes = bytes) (hzs : z.cells.size = 1)
    (x : Value) (n : Nat) (xs : List Value) (hs : a.eval s = x) (hown : w.ownsRow base e 1 x n xs)
    (hx : a.eval y = v) (hv : Row1 w v vs) (h1 : ∀ u ∈ vs, u.oneCell' = true)
    (h63 : n + vs.length ≤ maxLen) (hbytes : (n + vs.length) * bytes ≤ 140737488355328) (hbase : base ≤ w.heap.size)
    (h : ∀ x' w', w'.ownsRow base e 1 x' (n + vs.length) (xs ++ vs) → w.grownBy w' x.ownBlock → K (a.put d x') w') : o.wp P a w K Q := by
  subst hd
  exact wp_append_row s y t ho base e i z bytes ht hi hz hsize hby hzs x n xs hs hown hx hv h1 h63 hbytes hbase h
/-- A value's element. -/
theorem det_vindex {C : World → Prop} {D : Act → Prop} {o : Oper} {rest : List Oper} {a : Act} (ty : TypeId) (x y : Operand) (vx vy v : Value) (hw : Region.wanted o (yielded ops a.tmps) = true) (ho : o.op = .index ty x y) (hx : a.eval x = vx) (hy : a.eval y = vy)
    (h : ∀ w, (Instr.index ty vx vy).run P w = .ok v w) (next : wpDet P ops C D rest (a.put o.dst v)) : wpDet P ops C D (o :: rest) a :=
  det_val _ hw (fun w _ => by
    unfold execOp
    simp only [ho, hx, hy, Sem.run_bind, h, Result.andThen_ok, Sem.run_pure]) next
/-- The address of a slice's element. -/
theorem det_sindex {C : World → Prop} {D : Act → Prop} {o : Oper} {rest : List Oper} {a : Act} (ty e : TypeId) (x y : Operand) (c off len cap j : Nat) (hw : Region.wanted o (yielded ops a.tmps) = true) (ho : o.op = .indexAddr ty x y) (hx : a.eval x = .slice (some ⟨c, off, none⟩) len cap) (hy : a.eval y = .int .i64 (j : Int))
    (hu : P.underlying ty = some (.slice e)) (hj : j < len) (hs : ∀ w, (sizeOf e).run P w = .ok 1 w)
    (next : wpDet P ops C D rest (a.put o.dst (.pointer (some ⟨c, off + j, none⟩)))) : wpDet P ops C D (o :: rest) a :=
  det_val _ hw (fun w _ => by
    have h1 : (0 : Int) ≤ (j : Int) ∧ (j : Int) < (len : Int) := by omega
    unfold execOp
    simp [ho, hx, hy, Instr.indexAt, asIntOf, run_underlying hu, Instr.sureAddr, h1, hs, WideShapes.add_plain, hj]) next
end

end Go.Proofs.YtcadfccijeodbaaDoor

/- What may be taken first in a drawn region in which calls and new memory stand in a chain. Nothing here speaks of a program. Each theorem names its own conditions. -/
namespace Go.Proofs.YtcadfccijeodbaaDoor
open Go.RowKit
set_option linter.unusedVariables false

section
variable {P : Program} {ops : Array Oper} {S : World → Prop}
theorem yi_val {o : Oper} {a : Act} (v : Value) (hw : Region.wanted o (yielded ops a.tmps) = true) (h : ∀ w, S w → (execOp a.eval o).run P w = .ok (.value v) w) : YieldsIf P ops S o v a := Or.inl ⟨hw, h⟩
theorem yi_skip {o : Oper} {a : Act} (hw : Region.wanted o (yielded ops a.tmps) = false) : YieldsIf P ops S o undef a := Or.inr ⟨hw, rfl⟩
theorem yi_move {o : Oper} {a : Act} (x : Operand) (v : Value) (hw : Region.wanted o (yielded ops a.tmps) = true) (ho : o.op = .move x) (hx : a.eval x = v) : YieldsIf P ops S o v a :=
  yi_val v hw (fun w _ => by unfold execOp; simp only [ho, hx, Sem.run_pure])
theorem yi_assign {o : Oper} {a : Act} (x : Operand) (v : Value) (hw : Region.wanted o (yielded ops a.tmps) = true) (ho : o.op = .assign x) (hx : a.eval x = v) : YieldsIf P ops S o v a :=
  yi_val v hw (fun w _ => by unfold execOp; simp only [ho, hx, Sem.run_pure])
theorem yi_pick {o : Oper} {a : Act} (c x y : Operand) (b : Bool) (v : Value) (hw : Region.wanted o (yielded ops a.tmps) = true) (ho : o.op = .pick c x y) (hc : a.eval c = .bool b) (hx : (if b then a.eval x else a.eval y) = v) : YieldsIf P ops S o v a :=
  yi_val v hw (fun w _ => by
    unfold execOp
    cases b <;> simp only [ho, hc, Bool.false_eq_true, if_false, if_true] at hx ⊢ <;> simp [asBool, hx])
theorem yi_eql {o : Oper} {a : Act} (ty rt e : TypeId) (x y : Operand) (n : Nat) (i : TypeInfo) (xs ys : List UInt8) (r : Bool) (hw : Region.wanted o (yielded ops a.tmps) = true) (ho : o.op = .binOp .eql ty x y rt) (hb : decide (xs = ys) = r)
    (hu : P.underlying ty = some (.array n e)) (he : P.underlying e = some (.int .u8)) (hi : P.info? e = some i) (hc : P.cellsOf e = 1) (hg : P.eqGuardType P.depth ty = false)
    (hx : a.eval x = .agg (xs.map bval).toArray) (hy : a.eval y = .agg (ys.map bval).toArray) (lx : xs.length = n) (ly : ys.length = n) : YieldsIf P ops S o (.bool r) a :=
  yi_val _ hw (fun w _ => by
    have h1 := run_equal_bytes hu he hi hc xs ys lx ly w
    rw [hb] at h1
    unfold execOp
    simp [ho, hx, hy, eqGuard, hg, binOp, h1])
/-- A slice, whose run is known. -/
theorem yi_slice {o : Oper} {a : Act} (t : TypeId) (x : Operand) (lo hi : Option Operand) (vx v : Value) (vlo vhi : Option Value) (hw : Region.wanted o (yielded ops a.tmps) = true) (ho : o.op = .slice t x lo hi none) (hx : a.eval x = vx) (hlo : lo.map a.eval = vlo) (hhi : hi.map a.eval = vhi)
    (h : ∀ w, (Instr.sliceAt t vx vlo vhi none).run P w = .ok v w) : YieldsIf P ops S o v a :=
  yi_val v hw (fun w _ => by
    unfold execOp
    simp only [ho, hx, hlo, hhi, Option.map_none, Sem.run_bind, h, Result.andThen_ok, Sem.run_pure])
theorem step_wp {o : Oper} {a : Act} {w : World} {K : Act → World → Prop} {Q : Exit → Act → World → Prop} {E : Prop} (hw : Region.wanted o (yielded ops a.tmps) = true) (h : Oper.wp P o a w K Q) : if Region.wanted o (yielded ops a.tmps) = true then Oper.wp P o a w K Q else E := by
  rw [if_pos hw]
  exact h
end

end Go.Proofs.YtcadfccijeodbaaDoor

/- Further operations that may be taken first in a drawn region in which calls and new memory stand in a chain: lengths, texts of bytes, comparisons, not. Nothing here speaks of a program. Each theorem names its own conditions. -/
namespace Go.Proofs.YtcadfccijeodbaaDoor
open Go.RowKit
set_option linter.unusedVariables false
set_option linter.unusedSimpArgs false

section
variable {P : Program} {ops : Array Oper} {S : World → Prop}
theorem yi_len {o : Oper} {a : Act} (x : Operand) (t e : TypeId) (ad : Option Addr) (n c : Nat) (ht : P.underlying t = some (.slice e)) (hw : Region.wanted o (yielded ops a.tmps) = true) (ho : o.op = .call { callee := .builtin .len, args := #[x], argTypes := #[t] }) (hx : a.eval x = .slice ad n c) : YieldsIf P ops S o (.int .i64 (n : Int)) a :=
  yi_val _ hw (fun w _ => by
    unfold execOp
    simp [ho, resolve, invoke, builtin, hx, Builtin.len_, run_underlying ht, goInt, Result.andThen])
theorem yi_not {o : Oper} {a : Act} (ty : TypeId) (x : Operand) (b : Bool) (hw : Region.wanted o (yielded ops a.tmps) = true) (ho : o.op = .unOp .not ty x) (hx : a.eval x = .bool b) : YieldsIf P ops S o (.bool !b) a :=
  yi_val _ hw (fun w _ => by
    unfold execOp
    simp [ho, hx, Op.unary, Result.andThen])
theorem yi_eqb {o : Oper} {a : Act} (ty rt : TypeId) (x y : Operand) (b c r : Bool) (hr : (b == c) = r) (hu : P.underlying ty = some .bool) (hw : Region.wanted o (yielded ops a.tmps) = true) (ho : o.op = .binOp .eql ty x y rt) (hx : a.eval x = .bool b) (hy : a.eval y = .bool c) : YieldsIf P ops S o (.bool r) a :=
  yi_val _ hw (fun w _ => by
    unfold execOp
    simp only [ho, hx, hy]
    simp [eqGuard, binOp, run_equal_bools hu, hr])
/-- A text of bytes, whose run is known. -/
theorem yi_conv {o : Oper} {a : Act} (s t : TypeId) (x : Operand) (vx v : Value) (hw : Region.wanted o (yielded ops a.tmps) = true) (ho : o.op = .convert s t x) (hx : a.eval x = vx) (h : ∀ w, S w → (convert s t vx).run P w = .ok v w) : YieldsIf P ops S o v a :=
  yi_val v hw (fun w hS => by
    unfold execOp
    simp only [ho, hx, Sem.run_bind, h w hS, Result.andThen_ok, Sem.run_pure])
theorem yi_eqi {o : Oper} {a : Act} (k : IntKind) (ty rt : TypeId) (x y : Operand) (b c : Int) (r : Bool) (hr : decide (b = c) = r) (hw : Region.wanted o (yielded ops a.tmps) = true) (ho : o.op = .binOp .eql ty x y rt) (hx : a.eval x = .int k b) (hy : a.eval y = .int k c) : YieldsIf P ops S o (.bool r) a :=
  yi_val _ hw (fun w _ => by
    subst hr
    unfold execOp
    simp only [ho, hx, hy]
    simp [eqGuard, binOp, Op.intCmp, Result.andThen]
    try rw [Bool.eq_iff_iff]; simp)
theorem yi_eqt {o : Oper} {a : Act} (ty rt : TypeId) (x y : Operand) (b c : List UInt8) (r : Bool) (hr : decide (b = c) = r) (hw : Region.wanted o (yielded ops a.tmps) = true) (ho : o.op = .binOp .eql ty x y rt) (hx : a.eval x = .string ⟨b.toArray⟩) (hy : a.eval y = .string ⟨c.toArray⟩) : YieldsIf P ops S o (.bool r) a :=
  yi_val _ hw (fun w _ => by
    subst hr
    unfold execOp
    simp only [ho, hx, hy]
    simp [eqGuard, binOp, Op.stringOp, Result.andThen]
    try rw [Bool.eq_iff_iff]; simp)
theorem yi_and {o : Oper} {a : Act} (k : IntKind) (ty rt : TypeId) (x y : Operand) (m n r : Int) (hr : bits .and k m n = r) (hw : Region.wanted o (yielded ops a.tmps) = true) (ho : o.op = .binOp .and ty x y rt) (hx : a.eval x = .int k m) (hy : a.eval y = .int k n) : YieldsIf P ops S o (.int k r) a :=
  yi_val _ hw (fun w _ => by rw [← hr]; unfold execOp bits; simp [ho, hx, hy, eqGuard, binOp, Op.intBits])
theorem yi_iconv {o : Oper} {a : Act} (src dst : TypeId) (x : Operand) (k k' : IntKind) (n r : Int) (hs : (P.underlying src).isSome = true) (hd : P.underlying dst = some (.int k')) (hr : k'.wrap n = r) (hw : Region.wanted o (yielded ops a.tmps) = true) (ho : o.op = .convert src dst x) (hx : a.eval x = .int k n) : YieldsIf P ops S o (.int k' r) a :=
  yi_val _ hw (fun w _ => by
    obtain ⟨u, hu⟩ := Option.isSome_iff_exists.1 hs
    have h : (convert src dst (.int k n)).run P w = .ok (.int k' r) w := by
      simp [convert, run_underlying hu, run_underlying hd, Conv.intToInt, hr]
    unfold execOp
    simp only [ho, hx, Sem.run_bind, h, Result.andThen_ok, Sem.run_pure])
theorem wp_alloc_d {o : Oper} {a : Act} {w : World} {K : Act → World → Prop} {Q : Exit → Act → World → Prop} (d : Option Nat) (ty : TypeId) (zs : List Value) (hd : o.dst = d) (ho : o.op = .alloc ty) (hz : ∀ w, (zeroValue ty).run P w = .ok (.agg zs.toArray) w)
    (h : K (a.put d (.pointer (some ⟨w.heap.size, 0, none⟩))) (w.alloc (.cells zs.toArray ty))) : o.wp P a w K Q := by
  subst hd
  unfold Oper.wp
  rw [run_alloc_zero ho hz]
  exact h
theorem wp_conv_d {o : Oper} {a : Act} {w : World} {K : Act → World → Prop} {Q : Exit → Act → World → Prop} (d : Option Nat) (s t : TypeId) (x : Operand) (vx v : Value) (w' : World) (hd : o.dst = d) (ho : o.op = .convert s t x) (hx : a.eval x = vx) (hr : (convert s t vx).run P w = .ok v w')
    (h : K (a.put d v) w') : o.wp P a w K Q := by
  subst hd
  unfold Oper.wp execOp
  simp only [ho, hx, Sem.run_bind, hr, Result.andThen_ok, Sem.run_pure]
  exact h
theorem yi_neqB {o : Oper} {a : Act} (ty rt e : TypeId) (x y : Operand) (n : Nat) (i : TypeInfo) (xs ys : List UInt8) (r : Bool) (hw : Region.wanted o (yielded ops a.tmps) = true) (ho : o.op = .binOp .neq ty x y rt) (hb : decide (xs = ys) = !r)
    (hu : P.underlying ty = some (.array n e)) (he : P.underlying e = some (.int .u8)) (hi : P.info? e = some i) (hc : P.cellsOf e = 1) (hg : P.eqGuardType P.depth ty = false)
    (hx : a.eval x = .agg (xs.map bval).toArray) (hy : a.eval y = .agg (ys.map bval).toArray) (lx : xs.length = n) (ly : ys.length = n) : YieldsIf P ops S o (.bool r) a :=
  yi_val _ hw (fun w _ => by
    have h1 := run_equal_bytes hu he hi hc xs ys lx ly w
    rw [hb] at h1
    unfold execOp
    simp [ho, hx, hy, eqGuard, hg, binOp, h1])
theorem yi_build {o : Oper} {a : Act} (ty : TypeId) (parts : Array (Nat × Operand)) (vs : Array (Nat × Value)) (v : Value) (hr : ∀ w, (Instr.build ty vs).run P w = .ok v w) (hw : Region.wanted o (yielded ops a.tmps) = true) (ho : o.op = .build ty parts) (hp : parts.map (fun (i, x) => (i, a.eval x)) = vs) : YieldsIf P ops S o v a :=
  yi_val _ hw (fun w _ => by
    subst hp
    unfold execOp
    simp only [ho, Sem.run_bind, hr, Result.andThen_ok, Sem.run_pure])
theorem wp_make_d {o : Oper} {a : Act} {w : World} {K : Act → World → Prop} {Q : Exit → Act → World → Prop} (d : Option Nat) (t : TypeId) (x y : Operand) (vx vy v : Value) (w' : World) (hd : o.dst = d) (ho : o.op = .makeSlice t x y) (hx : a.eval x = vx) (hy : a.eval y = vy) (hr : (Instr.makeSlice t vx vy).run P w = .ok v w')
    (h : K (a.put d v) w') : o.wp P a w K Q := by
  subst hd
  unfold Oper.wp execOp
  simp only [ho, hx, hy, Sem.run_bind, hr, Result.andThen_ok, Sem.run_pure]
  exact h
theorem yi_add {o : Oper} {a : Act} (k : IntKind) (ty rt : TypeId) (x y : Operand) (m n r : Int) (hr : k.wrap (m + n) = r) (hw : Region.wanted o (yielded ops a.tmps) = true) (ho : o.op = .binOp .add ty x y rt) (hx : a.eval x = .int k m) (hy : a.eval y = .int k n) : YieldsIf P ops S o (.int k r) a :=
  yi_val _ hw (fun w _ => by unfold execOp; simp [ho, hx, hy, eqGuard, binOp, Op.intArith, hr])
theorem yi_sub {o : Oper} {a : Act} (k : IntKind) (ty rt : TypeId) (x y : Operand) (m n r : Int) (hr : k.wrap (m - n) = r) (hw : Region.wanted o (yielded ops a.tmps) = true) (ho : o.op = .binOp .sub ty x y rt) (hx : a.eval x = .int k m) (hy : a.eval y = .int k n) : YieldsIf P ops S o (.int k r) a :=
  yi_val _ hw (fun w _ => by unfold execOp; simp [ho, hx, hy, eqGuard, binOp, Op.intArith, hr])
theorem yi_mul {o : Oper} {a : Act} (k : IntKind) (ty rt : TypeId) (x y : Operand) (m n r : Int) (hr : k.wrap (m * n) = r) (hw : Region.wanted o (yielded ops a.tmps) = true) (ho : o.op = .binOp .mul ty x y rt) (hx : a.eval x = .int k m) (hy : a.eval y = .int k n) : YieldsIf P ops S o (.int k r) a :=
  yi_val _ hw (fun w _ => by unfold execOp; simp [ho, hx, hy, eqGuard, binOp, Op.intArith, hr])
theorem yi_net {o : Oper} {a : Act} (ty rt : TypeId) (x y : Operand) (b c : List UInt8) (r : Bool) (hr : decide (b = c) = !r) (hw : Region.wanted o (yielded ops a.tmps) = true) (ho : o.op = .binOp .neq ty x y rt) (hx : a.eval x = .string ⟨b.toArray⟩) (hy : a.eval y = .string ⟨c.toArray⟩) : YieldsIf P ops S o (.bool r) a :=
  yi_val _ hw (fun w _ => by
    have hr2 : r = !decide (b = c) := by rw [hr, Bool.not_not]
    subst hr2
    unfold execOp
    simp only [ho, hx, hy]
    simp [eqGuard, binOp, Op.stringOp, Result.andThen]
    try rw [Bool.eq_iff_iff]; simp)
end

end Go.Proofs.YtcadfccijeodbaaDoor

/- A struct of four arrays of sixteen integers: its fields' addresses, its parts, how it is built. Nothing here speaks of a program. Each theorem names its own conditions. -/
namespace Go.Proofs.YtcadfccijeodbaaDoor
open Go.RowKit
set_option linter.unusedVariables false
set_option linter.unusedSimpArgs false

theorem fold_lay (off : Nat) (post : List Value) : ∀ (new mid pre : List Value) (k : Nat), new.length = mid.length → pre.length = off + k →
    (new.zipIdx k).foldl (fun (cs : Array Value) (x : Value × Nat) => cs.setIfInBounds (off + x.2) x.1) (pre ++ (mid ++ post)).toArray = (pre ++ (new ++ post)).toArray
  | [], mid, pre, k, h, hp => by
    obtain rfl : mid = [] := List.eq_nil_of_length_eq_zero (by simpa using h.symm)
    rfl
  | c :: new, [], pre, k, h, hp => by simp at h
  | c :: new, m :: mid, pre, k, h, hp => by
    rw [List.zipIdx_cons, List.foldl_cons]
    have e : (pre ++ (m :: mid ++ post)).toArray.setIfInBounds (off + k) c = ((pre ++ [c]) ++ (mid ++ post)).toArray := by
      rw [List.setIfInBounds_toArray, ← hp, List.set_append_right _ _ (Nat.le_refl _), Nat.sub_self]
      simp
    show (new.zipIdx (k + 1)).foldl _ ((pre ++ (m :: mid ++ post)).toArray.setIfInBounds (off + k) c) = _
    rw [e, fold_lay off post new mid (pre ++ [c]) (k + 1) (by simpa using h) (by simp [hp]; omega)]
    simp
theorem fill_lay {place : Nat → Option (Nat × Nat)} {i off n : Nat} {pre mid post new : List Value} {rest : List (Nat × Value)} (hp : place i = some (off, n)) (hl : pre.length = off) (hm : mid.length = n) (hn : new.length = n) :
    Instr.fill place (pre ++ (mid ++ post)).toArray ((i, .agg new.toArray) :: rest) = Instr.fill place (pre ++ (new ++ post)).toArray rest := by
  have e : (new.toArray.zipIdx.foldl (fun (cs : Array Value) (x : Value × Nat) => cs.setIfInBounds (off + x.2) x.1) (pre ++ (mid ++ post)).toArray) = (pre ++ (new ++ post)).toArray := by
    rw [← fold_lay off post new mid pre 0 (by rw [hn, hm]) (by rw [hl]; rfl), ← Array.foldl_toList, Array.toList_zipIdx]
  rw [Instr.fill, hp]
  have h1 : (Value.cells (.agg new.toArray)).size = n := by simpa [Value.cells] using hn
  have h2 : ¬ (off + n > (pre ++ (mid ++ post)).toArray.size) := by simp [hl, hm]
  simp only [h1]
  rw [if_neg (by simp [h2]; simp at h2; omega)]
  exact congrArg (fun z => Instr.fill place z rest) e
/-- Four parts of sixteen, over noughts. -/
theorem fill_four {place : Nat → Option (Nat × Nat)} (p0 : place 0 = some (0, 16)) (p1 : place 1 = some (16, 16)) (p2 : place 2 = some (32, 16)) (p3 : place 3 = some (48, 16)) (zero : Array Value) (hz : zero.size = 64) {a b c d : List Value} (ha : a.length = 16) (hb : b.length = 16) (hc : c.length = 16) (hd : d.length = 16) :
    Instr.fill place zero [(0, .agg a.toArray), (1, .agg b.toArray), (2, .agg c.toArray), (3, .agg d.toArray)] = some (a ++ (b ++ (c ++ d))).toArray := by
  obtain ⟨l, hl⟩ : ∃ l : List Value, zero = l.toArray ∧ l.length = 64 := ⟨zero.toList, by simp, by simpa using hz⟩
  obtain ⟨rfl, hl⟩ := hl
  have e0 : l = [] ++ (l.take 16 ++ ((l.drop 16).take 16 ++ ((l.drop 32).take 16 ++ l.drop 48))) := by
    rw [List.nil_append]
    have h3 : (l.drop 32).take 16 ++ l.drop 48 = l.drop 32 := by rw [show l.drop 48 = (l.drop 32).drop 16 by rw [List.drop_drop], List.take_append_drop]
    have h2 : (l.drop 16).take 16 ++ l.drop 32 = l.drop 16 := by rw [show l.drop 32 = (l.drop 16).drop 16 by rw [List.drop_drop], List.take_append_drop]
    rw [h3, h2, List.take_append_drop]
  have l0 : (l.take 16).length = 16 := by simp [hl]
  have l1 : ((l.drop 16).take 16).length = 16 := by simp [hl]
  have l2 : ((l.drop 32).take 16).length = 16 := by simp [hl]
  have l3 : (l.drop 48).length = 16 := by simp [hl]
  generalize l.take 16 = q0 at *
  generalize (l.drop 16).take 16 = q1 at *
  generalize (l.drop 32).take 16 = q2 at *
  generalize l.drop 48 = q3 at *
  rw [e0, fill_lay (off := 0) (n := 16) p0 rfl l0 ha]
  rw [show ([] : List Value) ++ (a ++ (q1 ++ (q2 ++ q3))) = a ++ (q1 ++ (q2 ++ q3)) from rfl, fill_lay (off := 16) (n := 16) p1 ha l1 hb]
  rw [show a ++ (b ++ (q2 ++ q3)) = (a ++ b) ++ (q2 ++ q3) by simp, fill_lay (off := 32) (n := 16) p2 (by simp [ha, hb]) l2 hc]
  rw [show (a ++ b) ++ (c ++ q3) = (a ++ b ++ c) ++ (q3 ++ []) by simp, fill_lay (off := 48) (n := 16) p3 (by simp [ha, hb, hc]) l3 hd]
  rw [Instr.fill]
  simp
theorem rng_mid {w : World} {c : Nat} {t : TypeId} {pre mid post : List Value} (h : Blk w c (pre ++ (mid ++ post)) t) {o : Nat} (ho : pre.length = o) : w.rangeAt c o mid := fun j v hj => by
  subst ho
  have hjl : j < mid.length := by
    rcases Nat.lt_or_ge j mid.length with h' | h'
    · exact h'
    · rw [List.getElem?_eq_none h'] at hj; cases hj
  rw [h.cell, List.getElem?_append_right (by omega), Nat.add_sub_cancel_left, List.getElem?_append_left hjl]
  exact hj
theorem boxes_one (w : World) (ks : List Value) (T : TypeId) : Blk (w.alloc (.cells ks.toArray T)) w.heap.size ks T ∧ Ext w (w.alloc (.cells ks.toArray T)) := ⟨Blk.made w ks T, Ext.alloc w _⟩
/-- A value is built, in a plain region. -/
theorem wpList_build {P : Program} {w : World} {ops : Array Oper} {rest : List Oper} {o : Oper} {a : Act} {Q : Exit → Act → World → Prop} (hgd : o.guard = none) (ty : TypeId) (parts : Array (Nat × Operand)) (ho : o.op = .build ty parts)
    (vs : Array (Nat × Value)) (hp : parts.map (fun (i, x) => (i, a.eval x)) = vs) (v : Value) (hr : (Instr.build ty vs).run P w = .ok v w) (h : wpList P ops Q rest (a.put o.dst v) w) : wpList P ops Q (o :: rest) a w :=
  wpList_plain hgd fun _ hK => by
    subst hp
    unfold Oper.wp execOp
    simp only [ho, Sem.run_bind, hr, Result.andThen_ok, Sem.run_pure]
    exact hK _ _ h

end Go.Proofs.YtcadfccijeodbaaDoor

/- In a drawn region's one walk: the load of a part of a block, the address of a part's part, a struct that is built; blocks of two parts. Nothing here speaks of a program. Each theorem names its own conditions. -/
namespace Go.Proofs.YtcadfccijeodbaaDoor
open Go.RowKit
set_option linter.unusedVariables false
set_option linter.unusedSimpArgs false

section
variable {P : Program} {ops : Array Oper} {Q : Exit → Act → World → Prop} {md : Region.Mode} {t : Nat} {C : World → Prop} {D : Act → Prop}
/-- The load of a part of a block. -/
theorem det_loadk {o : Oper} {rest : List Oper} {a : Act} (ty : TypeId) (x : Operand) (c k : Nat) (cs : List Value) (d : TypeDesc) (hw : Region.wanted o (yielded ops a.tmps) = true) (ho : o.op = .load ty x)
    (hx : a.eval x = .pointer (some ⟨c, k, none⟩)) (hC : ∀ w, C w → w.rangeAt c k cs) (hu : P.underlying ty = some d) (hd : d.isRow = true) (hi : (P.info? ty).map (·.size) = some cs.length)
    (next : wpDet P ops C D rest (a.put o.dst (.agg cs.toArray))) : wpDet P ops C D (o :: rest) a := by
  rcases yieldsIf_load_mid (S := C) hw ty x ho c k hx cs d hC hu hd hi with ⟨_, h⟩ | ⟨h, _⟩
  · exact det_val _ hw h next
  · rw [hw] at h; cases h
/-- A part's part. -/
theorem det_fieldk {o : Oper} {rest : List Oper} {a : Act} (ty : TypeId) (x : Operand) (c f i j : Nat) (hw : Region.wanted o (yielded ops a.tmps) = true) (ho : o.op = .fieldAddr ty x f) (hx : a.eval x = .pointer (some ⟨c, i, none⟩))
    (hr : ∀ w, (Instr.fieldAt ty (.pointer (some ⟨c, i, none⟩)) f).run P w = .ok (.pointer (some ⟨c, j, none⟩)) w)
    (next : wpDet P ops C D rest (a.put o.dst (.pointer (some ⟨c, j, none⟩)))) : wpDet P ops C D (o :: rest) a :=
  det_val _ hw (fun w _ => by unfold execOp; simp only [ho, hx, Sem.run_bind, hr, Result.andThen_ok, Sem.run_pure]) next
/-- A value is built. -/
theorem det_build {o : Oper} {rest : List Oper} {a : Act} (ty : TypeId) (parts : Array (Nat × Operand)) (vs : Array (Nat × Value)) (v : Value) (hw : Region.wanted o (yielded ops a.tmps) = true) (ho : o.op = .build ty parts)
    (hp : parts.map (fun (i, x) => (i, a.eval x)) = vs) (hr : ∀ w, (Instr.build ty vs).run P w = .ok v w)
    (next : wpDet P ops C D rest (a.put o.dst v)) : wpDet P ops C D (o :: rest) a :=
  det_val v hw (fun w _ => by
    subst hp
    unfold execOp
    simp only [ho, Sem.run_bind, hr, Result.andThen_ok, Sem.run_pure]) next
theorem det_quo {o : Oper} {rest : List Oper} {a : Act} (ty rt : TypeId) (x y : Operand) (m n : Nat) (hw : Region.wanted o (yielded ops a.tmps) = true) (ho : o.op = .binOp .quo ty x y rt) (hx : a.eval x = .int .i64 (m : Int)) (hy : a.eval y = .int .i64 (n : Int)) (hn : 0 < n) (hm : m < 2 ^ 31)
    (next : wpDet P ops C D rest (a.put o.dst (.int .i64 ((m / n : Nat) : Int)))) : wpDet P ops C D (o :: rest) a :=
  det_val _ hw (fun w _ => by
    have h1 : (n : Int) ≠ 0 := by omega
    have h2 : (m : Int).tdiv n = ((m / n : Nat) : Int) := by rw [Int.tdiv_eq_ediv_of_nonneg (by omega)]; rfl
    have h4 : m / n ≤ m := Nat.div_le_self _ _
    have h3 : IntKind.i64.wrap ((m / n : Nat) : Int) = ((m / n : Nat) : Int) := by
      rw [IntKind.wrap_i64]
      generalize m / n = q at *
      omega
    unfold execOp
    simp only [ho, hx, hy]
    simp [eqGuard, binOp, Op.intDiv, h1, Result.andThen]
    rw [show ((m : Int) / (n : Int)) = ((m / n : Nat) : Int) from rfl, h3, if_neg (show ¬ n = 0 by omega)]) next
theorem det_rem {o : Oper} {rest : List Oper} {a : Act} (ty rt : TypeId) (x y : Operand) (m n : Nat) (hw : Region.wanted o (yielded ops a.tmps) = true) (ho : o.op = .binOp .rem ty x y rt) (hx : a.eval x = .int .i64 (m : Int)) (hy : a.eval y = .int .i64 (n : Int)) (hn : 0 < n) (hm : m < 2 ^ 31)
    (next : wpDet P ops C D rest (a.put o.dst (.int .i64 ((m % n : Nat) : Int)))) : wpDet P ops C D (o :: rest) a :=
  det_val _ hw (fun w _ => by
    have h1 : (n : Int) ≠ 0 := by omega
    unfold execOp
    simp only [ho, hx, hy]
    simp [eqGuard, binOp, Op.intDiv, h1, Result.andThen]
    rw [if_neg (show ¬ n = 0 by omega)]
    simp [Int.tmod_eq_emod_of_nonneg (show (0 : Int) ≤ (m : Int) by omega)]) next
theorem det_shrn {o : Oper} {rest : List Oper} {a : Act} (k : IntKind) (ty rt : TypeId) (x y : Operand) (m n : Nat) (hw : Region.wanted o (yielded ops a.tmps) = true) (ho : o.op = .binOp .shr ty x y rt) (hx : a.eval x = .int k (m : Int)) (hy : a.eval y = .int .i64 (n : Int)) (hn : n ≤ k.bits)
    (next : wpDet P ops C D rest (a.put o.dst (.int k ((m / 2 ^ n : Nat) : Int)))) : wpDet P ops C D (o :: rest) a :=
  det_val _ hw (fun w _ => by
    unfold execOp
    simp only [ho, hx, hy]
    simp [eqGuard, binOp, Op.shift, Result.andThen]
    rw [if_neg (show ¬ (n : Int) < 0 by omega), Nat.min_eq_left hn, Int.fdiv_eq_ediv_of_nonneg _ (by exact_mod_cast Nat.zero_le (2 ^ n))]) next
theorem det_eqi {o : Oper} {rest : List Oper} {a : Act} (k : IntKind) (ty rt : TypeId) (x y : Operand) (b c : Int) (r : Bool) (hw : Region.wanted o (yielded ops a.tmps) = true) (ho : o.op = .binOp .eql ty x y rt) (hx : a.eval x = .int k b) (hy : a.eval y = .int k c) (hr : decide (b = c) = r)
    (next : wpDet P ops C D rest (a.put o.dst (.bool r))) : wpDet P ops C D (o :: rest) a :=
  det_val _ hw (fun w _ => by
    subst hr
    unfold execOp
    simp only [ho, hx, hy]
    simp [eqGuard, binOp, Op.intCmp, Result.andThen]
    try rw [Bool.eq_iff_iff]; simp) next
end

/-- Two parts, over noughts. -/
theorem fill_pair {place : Nat → Option (Nat × Nat)} {m n : Nat} (p0 : place 0 = some (0, m)) (p1 : place 1 = some (m, n)) (zero : Array Value) (hz : zero.size = m + n) {a b : List Value} (ha : a.length = m) (hb : b.length = n) :
    Instr.fill place zero [(0, .agg a.toArray), (1, .agg b.toArray)] = some (a ++ b).toArray := by
  obtain ⟨l, hl⟩ : ∃ l : List Value, zero = l.toArray ∧ l.length = m + n := ⟨zero.toList, by simp, by simpa using hz⟩
  obtain ⟨rfl, hl⟩ := hl
  have e0 : l = [] ++ (l.take m ++ l.drop m) := by simp
  have l0 : (l.take m).length = m := by simp [hl]
  have l1 : (l.drop m).length = n := by simp [hl]
  generalize l.take m = q0 at *
  generalize l.drop m = q1 at *
  rw [e0, fill_lay (off := 0) (n := m) p0 rfl l0 ha]
  rw [show ([] : List Value) ++ (a ++ q1) = a ++ (q1 ++ []) by simp, fill_lay (off := m) (n := n) p1 ha l1 hb]
  rw [Instr.fill]
  simp
/-- The first part alone, over noughts. -/
theorem fill_first {place : Nat → Option (Nat × Nat)} {m : Nat} (p0 : place 0 = some (0, m)) (z0 z1 : List Value) (hz : z0.length = m) {a : List Value} (ha : a.length = m) :
    Instr.fill place (z0 ++ z1).toArray [(0, .agg a.toArray)] = some (a ++ z1).toArray := by
  have e := fill_lay (place := place) (i := 0) (off := 0) (n := m) (pre := []) (mid := z0) (post := z1) (rest := []) p0 rfl hz ha
  rw [List.nil_append, List.nil_append] at e
  rw [e, Instr.fill]
theorem rng_lo {w : World} {c o : Nat} {a b : List Value} (h : w.rangeAt c o (a ++ b)) : w.rangeAt c o a := fun j v hj => by
  have hjl : j < a.length := by
    rcases Nat.lt_or_ge j a.length with h' | h'
    · exact h'
    · rw [List.getElem?_eq_none h'] at hj; cases hj
  exact h j v (by rw [List.getElem?_append_left hjl]; exact hj)
theorem rng_hi {w : World} {c o m k : Nat} {a b : List Value} (h : w.rangeAt c o (a ++ b)) (hm : a.length = m) (hk : o + m = k) : w.rangeAt c k b := fun j v hj => by
  have e := h (m + j) v (by rw [List.getElem?_append_right (by omega), ← hm, Nat.add_sub_cancel_left]; exact hj)
  rw [← Nat.add_assoc, hk] at e
  exact e

end Go.Proofs.YtcadfccijeodbaaDoor

/- A number put into a slice of its own, and behind others. Nothing here speaks of a program. Each theorem names its own conditions. -/
namespace Go.Proofs.YtcadfccijeodbaaDoor
open Go.RowKit
set_option linter.unusedVariables false

theorem ext_ownS {a b d : World} {base size : Nat} {e : TypeId} {n : Nat} {x : Value} {xs : List Value} (h : Ext a b) (ho : b.ownsRow base e size x n xs) (hb : a.heap.size ≤ base) (hg : b.grownBy d x.ownBlock) : Ext a d :=
  Below.grown h hg h.size (fun r hr => by
    obtain ⟨_, h1 | ⟨g, cap, cur, rfl, h2, _⟩⟩ := ho
    · obtain ⟨rfl, _⟩ := h1
      cases hr
    · cases hr
      exact Nat.le_trans hb h2)
theorem info_numz {P : Program} {t : TypeId} {z : Value} {n b : Nat} (h : (P.info? t).map (fun i => (i.zero, i.size, i.bytes)) = some (some z, n, b)) : ∃ i, P.info? t = some i ∧ i.zero = some z ∧ i.size = n ∧ i.bytes = b := by
  cases hp : P.info? t with
  | none => rw [hp] at h; cases h
  | some i =>
    rw [hp] at h
    simp only [Option.map_some, Option.some.injEq, Prod.mk.injEq] at h
    exact ⟨i, rfl, h.1, h.2.1, h.2.2⟩
section
variable {P : Program} {ops : Array Oper} {w : World}
theorem fill_one {z : Value} (hz : z.cells.size = 32) {p : List UInt8} (hp : p.length = 32) :
    Instr.fill (fun i => some (i * 32, 32)) ((Array.range (1 * 32)).map (z.cells[· % z.cells.size]!)) [(0, .agg (p.map bval).toArray)] = some (p.map bval).toArray := by
  obtain ⟨l, hl, hl2⟩ : ∃ l : List Value, ((Array.range (1 * 32)).map (z.cells[· % z.cells.size]!)) = l.toArray ∧ l.length = 32 := ⟨((Array.range (1 * 32)).map (z.cells[· % z.cells.size]!)).toList, by rw [Array.toArray_toList], by simp⟩
  rw [hl]
  have h := fill_first (place := fun i => some (i * 32, 32)) (m := 32) rfl l [] hl2 (a := p.map bval) (by rw [List.length_map, hp])
  rw [List.append_nil, List.append_nil] at h
  exact h
/-- []api.Num of one number. -/
theorem wp_build_num {o : Oper} {a : Act} {K : Act → World → Prop} {Q : Exit → Act → World → Prop} (d : Option Nat) (t q : TypeId) (x : Operand) (p : List UInt8) (hd : o.dst = d) (ho : o.op = .buildSlice t 1 #[(0, x)]) (hu : P.underlying t = some (.slice q))
    {iq : TypeInfo} {z : Value} (hi : P.info? q = some iq) (hz : iq.zero = some z) (hs : iq.size = 32) (hzs : z.cells.size = 32) (hx : a.eval x = .agg (p.map bval).toArray) (hp : p.length = 32)
    (h : K (a.put d (.slice (some ⟨w.heap.size, 0, none⟩) 1 1)) (w.alloc (.cells (p.map bval).toArray q))) : o.wp P a w K Q :=
  wp_buildSlice_d d t q 1 #[(0, x)] hd ho (p.map bval).toArray iq z hu hi hz (by rw [hs]; decide) (by rw [hs]; decide) (by
    rw [hs]
    simp only [List.map_toArray, List.map_cons, List.map_nil, hx]
    exact fill_one hzs hp) h
/-- append(row, number ..), the row the call's own. -/
theorem wp_append_num {o : Oper} {a : Act} {K : Act → World → Prop} {Q : Exit → Act → World → Prop} (d : Option Nat) (s y : Operand) (t : TypeId) (hd : o.dst = d) (ho : o.op = .call { callee := .builtin .append, args := #[s, y], argTypes := #[t, t] })
    (base : Nat) (q : TypeId) (hu : P.underlying t = some (.slice q)) {iq : TypeInfo} {z : Value} (hi : P.info? q = some iq) (hz : iq.zero = some z) (hsz : iq.size = 32) (hby : iq.bytes = 32) (hzs : z.cells.size = 32)
    (x : Value) (n : Nat) (xs : List Value) (hs : a.eval s = x) (hown : w.ownsRow base q 32 x n xs)
    (g c : Nat) (p : List UInt8) (hx : a.eval y = .slice (some ⟨g, 0, none⟩) 1 c) (hb : w.rangeAt g 0 (p.map bval)) (hp : p.length = 32) (hn : n ≤ 1000000) (hbase : base ≤ w.heap.size)
    (h : ∀ x' w', w'.ownsRow base q 32 x' (n + 1) (xs ++ p.map bval) → w.grownBy w' x.ownBlock → K (a.put d x') w') : o.wp P a w K Q := by
  subst hd
  exact wp_append_own w s y t ho base q iq z 32 32 hu hi hz hsz hby hzs (by omega) x n xs hs hown ⟨g, 0, none⟩ 1 c (p.map bval) hx (by rw [List.length_map, hp]) (fun j u hj => by
    rw [WideShapes.add_plain, Nat.zero_add]
    have := hb j u hj
    rwa [Nat.zero_add] at this) (bval_one _) (by unfold maxLen; omega) (by omega) hbase (fun v' w' h2 h3 _ => h v' w' h2 h3)
end

end Go.Proofs.YtcadfccijeodbaaDoor

/- Slices of numbers: cut from the front; built and appended in a region that keeps the text's order; a row of rows cut on both sides. Nothing here speaks of a program. Each theorem names its own conditions. -/
namespace Go.Proofs.YtcadfccijeodbaaDoor
open Go.RowKit
set_option linter.unusedVariables false

theorem flat_drop : ∀ {ps : List (List UInt8)}, Nums ps → ∀ (n : Nat), (ps.drop n).flatten = ps.flatten.drop (32 * n)
  | [], _, n => by simp
  | p :: ps, h, 0 => by simp
  | p :: ps, h, n + 1 => by
    have hp := h p (List.mem_cons_self ..)
    rw [List.drop_succ_cons, List.flatten_cons, flat_drop (fun q hq => h q (List.mem_cons_of_mem _ hq)) n, List.drop_append, hp,
      show 32 * (n + 1) - 32 = 32 * n by omega, show p.drop (32 * (n + 1)) = [] from List.drop_eq_nil_of_le (by omega), List.nil_append]
theorem Nums.drop {a : List (List UInt8)} (ha : Nums a) (n : Nat) : Nums (a.drop n) := fun p h => ha p (List.mem_of_mem_drop h)

section
variable {P : Program} {ops : Array Oper} {w : World} {Q : Exit → Act → World → Prop}
/-- s[k:]. -/
theorem RowN.cut {v : Value} {ps : List (List UInt8)} {t e : TypeId} (ht : P.underlying t = some (.slice e)) (hs : ∀ w, (sizeOf e).run P w = .ok 32 w) (h : RowN w v ps) (k : Nat) (hk : k ≤ ps.length) :
    ∃ v', RowN w v' (ps.drop k) ∧ ∀ w', (Instr.sliceAt t v (some (.int .i64 (k : Int))) none none).run P w' = .ok v' w' := by
  obtain ⟨h0, a, cap, rfl, h1, h2, h3, h4⟩ := h
  have e2 : P.elem t = e := by unfold Program.elem; rw [ht]
  have ht2 : P.underlying t = some (.slice (P.elem t)) := by rw [e2]; exact ht
  have hl : (ps.drop k).length = ps.length - k := by simp
  have hr : ∀ w', (Instr.sliceAt t (.slice a ps.length cap) (some (.int .i64 (k : Int))) none none).run P w' = .ok (sliced a k ps.length cap 32) w' := fun w' => by
    rw [run_sliceAt_slice w' t _ _ _ _ ht2, run_slice_l (ht := ht2) (kl := .i64) (l := (k : Int)) (h0 := by omega) (h1 := by omega), e2, hs]
    simp
  refine ⟨_, ?_, hr⟩
  unfold sliced
  by_cases hc : cap = k
  · rw [if_pos hc]
    have hv : ps.drop k = [] := List.drop_eq_nil_of_le (by omega)
    refine ⟨h0.drop k, a, cap - k, by rw [hl], by rw [hl]; omega, by omega, fun e => by have := h3 e; omega, fun h => absurd hv h⟩
  · rw [if_neg hc]
    refine ⟨h0.drop k, a.map (·.add (k * 32)), cap - k, by rw [hl], by rw [hl]; omega, by omega, fun e => ?_, fun hne => ?_⟩
    · cases a with
      | none => have := h3 rfl; omega
      | some a => cases e
    · have hne2 : ps ≠ [] := by rintro rfl; simp at hne
      obtain ⟨b, off, rfl, g1, g2⟩ := h4 hne2
      refine ⟨b, off + k * 32, by rw [Option.map_some, WideShapes.add_plain], g1, fun i hi => ?_⟩
      rw [hl] at hi
      rw [Nat.add_assoc, g2 (k * 32 + i) (by omega), List.getElem?_map, List.getElem?_map, flat_drop h0, List.getElem?_drop, Nat.mul_comm k 32]
/-- []api.Num of one number, where the text's order is kept. -/
theorem wpList_build_num {rest : List Oper} {o : Oper} {a : Act} (hgd : o.guard = none) (d : Option Nat) (t q : TypeId) (x : Operand) (p : List UInt8) (hd : o.dst = d) (ho : o.op = .buildSlice t 1 #[(0, x)]) (hu : P.underlying t = some (.slice q))
    {iq : TypeInfo} {z : Value} (hi : P.info? q = some iq) (hz : iq.zero = some z) (hs : iq.size = 32) (hzs : z.cells.size = 32) (hx : a.eval x = .agg (p.map bval).toArray) (hp : p.length = 32)
    (h : wpList P ops Q rest (a.put d (.slice (some ⟨w.heap.size, 0, none⟩) 1 1)) (w.alloc (.cells (p.map bval).toArray q))) : wpList P ops Q (o :: rest) a w :=
  wpList_plain hgd fun _ hK => wp_build_num d t q x p hd ho hu hi hz hs hzs hx hp (hK _ _ h)
/-- append(row, number ..), where the text's order is kept. -/
theorem wpList_append_num {rest : List Oper} {o : Oper} {a : Act} (hgd : o.guard = none) (d : Option Nat) (s y : Operand) (t : TypeId) (hd : o.dst = d) (ho : o.op = .call { callee := .builtin .append, args := #[s, y], argTypes := #[t, t] })
    (base : Nat) (q : TypeId) (hu : P.underlying t = some (.slice q)) {iq : TypeInfo} {z : Value} (hi : P.info? q = some iq) (hz : iq.zero = some z) (hsz : iq.size = 32) (hby : iq.bytes = 32) (hzs : z.cells.size = 32)
    (x : Value) (n : Nat) (xs : List Value) (hs : a.eval s = x) (hown : w.ownsRow base q 32 x n xs)
    (g c : Nat) (p : List UInt8) (hx : a.eval y = .slice (some ⟨g, 0, none⟩) 1 c) (hb : w.rangeAt g 0 (p.map bval)) (hp : p.length = 32) (hn : n ≤ 1000000) (hbase : base ≤ w.heap.size)
    (h : ∀ x' w', w'.ownsRow base q 32 x' (n + 1) (xs ++ p.map bval) → w.grownBy w' x.ownBlock → wpList P ops Q rest (a.put d x') w') : wpList P ops Q (o :: rest) a w :=
  wpList_plain hgd fun _ hK => wp_append_num d s y t hd ho base q hu hi hz hsz hby hzs x n xs hs hown g c p hx hb hp hn hbase (fun x' w' h1 h2 => hK _ _ (h x' w' h1 h2))
end

end Go.Proofs.YtcadfccijeodbaaDoor

/- What the walks of RefRor need and no function of the document. Each theorem names its own conditions. -/
namespace Go.Proofs.YtcadfccijeodbaaDoor
open Go.RowKit
set_option linter.unusedVariables false
set_option linter.unusedSimpArgs false



end Go.Proofs.YtcadfccijeodbaaDoor

/- The walk of the document's own turn of a word. Each theorem names its own conditions. -/
namespace Go.Proofs.YtcadfccijeodbaaDoor
open Go.RowKit
set_option linter.unusedVariables false
set_option linter.unusedSimpArgs false

set_option maxHeartbeats 1000000 in
theorem ror_any (x : W32) (n : Nat) (hn : n ≤ 32) (w : World) : Calls Tryd.prog 34 #[.int .u32 (wi x), .int .u64 (n : Int)] w fun e w' => e = .returned (.int .u32 (wi (rotr x n))) ∧ w = w' := by
  have HX := Lib.hid (wi_rotr x n)
  have hr := wi_range x
  generalize wi x = z at *
  have n0 : (n : Int) ≤ 32 := by omega
  go_enter Tryd.func34, Tryd.ntmps34
  go_wp2_with fail
  go_ret
  exact ⟨congrArg (fun v => Ending.returned (.int .u32 v)) (by rw [← HX.out, IntKind.wrap_u32]), rfl⟩
theorem ror_ext (x : W32) (n : Nat) (hn : n ≤ 32) (w : World) : Calls Tryd.prog 34 #[.int .u32 (wi x), .int .u64 (n : Int)] w fun e w' => e = .returned (.int .u32 (wi (rotr x n))) ∧ Below w.heap.size w w' :=
  (ror_any x n hn w).mono fun _ _ h => ⟨h.1, by obtain ⟨_, rfl⟩ := h; exact Below.refl _ _⟩
end Go.Proofs.YtcadfccijeodbaaDoor

/- A row of the call's own: its length, its form. Nothing here speaks of a program. Each theorem names its own conditions. -/
namespace Go.Proofs.YtcadfccijeodbaaDoor
open Go.RowKit
set_option linter.unusedVariables false
set_option linter.unusedSimpArgs false

/-- A slice's length. -/
def lenOf : Value → Nat
  | .slice _ n _ => n
  | _ => 0

theorem ownRow_len {w : World} {base : Nat} {e : TypeId} {n : Nat} {x : Value} {xs : List Value} (h : w.ownsRow base e 1 x n xs) : lenOf x = n := by
  obtain ⟨_, ⟨rfl, rfl⟩ | ⟨g, cap, cur, rfl, _⟩⟩ := h
  · rfl
  · rfl
theorem own_eq {w : World} {base : Nat} {e : TypeId} {n m : Nat} {x : Value} {xs ys : List Value} (h : w.ownsRow base e 1 x n xs) (hn : n = m) (hx : xs = ys) : w.ownsRow base e 1 x m ys := by
  subst hn; subst hx
  exact h

/-- A row of the call's own was appended to: what lies below its base stands. -/
theorem below_own {a b d : World} {base : Nat} {e : TypeId} {n : Nat} {x : Value} {xs : List Value} (h : Below base a b) (ho : b.ownsRow base e 1 x n xs) (hg : b.grownBy d x.ownBlock) (hb : base ≤ b.heap.size) : Below base a d :=
  Below.grown h hg hb (fun r hr => by
    obtain ⟨_, h1 | ⟨g, cap, cur, rfl, h2, _⟩⟩ := ho
    · obtain ⟨rfl, _⟩ := h1
      cases hr
    · cases hr
      exact h2)

/-- One cell of a row of the call's own is read, and written. -/
theorem own_put {w : World} {base : Nat} {e : TypeId} {n : Nat} {x : Value} {xs : List Value} (h : w.ownsRow base e 1 x n xs) (k : Nat) (hk : k < n) :
    ∃ g cap, x = .slice (some ⟨g, 0, none⟩) n cap ∧ base ≤ g ∧ g < w.heap.size ∧ w.cell? ⟨g, k, none⟩ = xs[k]? ∧ w.frozen? ⟨g, k, none⟩ = false ∧ ∀ u, (w.setCell ⟨g, k, none⟩ u).ownsRow base e 1 x n (xs.set k u) := by
  obtain ⟨hl, h1 | ⟨g, cap, cur, rfl, h2, h3, h4, h5, h6, h7⟩⟩ := h
  · omega
  · rw [Nat.mul_one] at hl h6 h7
    have hB : Blk w g cur.toList e := by
      show w.heap[g]? = some (.cells cur.toList.toArray e (0, 0))
      rw [Array.toArray_toList]
      exact h3
    refine ⟨g, cap, rfl, h2, hB.lt, ?_, hB.free k, fun u => ⟨by rw [List.length_set, Nat.mul_one]; exact hl, Or.inr ⟨g, cap, cur.setIfInBounds k u, rfl, h2, heap_setCell_same w g k cur e u h3, h4, h5, by simp; omega, ?_⟩⟩⟩
    · rw [hB.cell, ← h7, List.getElem?_take, if_pos hk]
    · rw [Nat.mul_one, Array.toList_setIfInBounds, List.take_set, h7]

end Go.Proofs.YtcadfccijeodbaaDoor

/- What a byte takes. -/
namespace Go.Proofs.YtcadfccijeodbaaDoor

theorem Tryd.info5 : (Tryd.prog.info? 5).map (fun i => (i.zero, i.size, i.bytes)) = some (some (.int .u8 0), 1, 1) := by kernel_rfl

end Go.Proofs.YtcadfccijeodbaaDoor

/- What the walks of RefPad need and no function of the document. Each theorem names its own conditions. -/
namespace Go.Proofs.YtcadfccijeodbaaDoor
open Go.RowKit
set_option linter.unusedVariables false
set_option linter.unusedSimpArgs false

/-- What stands behind k noughts; behind k bytes of the length. -/
def padA (b : List UInt8) (k : Nat) : List UInt8 := b ++ [128] ++ List.replicate k 0
theorem padA_succ (b : List UInt8) (k : Nat) : padA b (k + 1) = padA b k ++ [0] := by
  unfold padA
  rw [List.replicate_succ']
  simp [List.append_assoc]
theorem padA_length (b : List UInt8) (k : Nat) : (padA b k).length = b.length + 1 + k := by simp [padA]; omega
/-- The first k of a number's eight bytes. -/
def padB (b : List UInt8) (k : Nat) : List UInt8 := padA b (padN b.length) ++ (beB 8 (8 * b.length)).take k
theorem padB_full (b : List UInt8) : padB b 8 = padded b := by
  unfold padB padded padA
  rw [List.take_of_length_le (by rw [beB_length]; exact Nat.le_refl _)]
theorem beB_get (n : Nat) : ∀ k j, j < k → (beB k n)[j]? = some (UInt8.ofNat (n / 256 ^ (k - 1 - j) % 256))
  | 0, j, h => by omega
  | k + 1, 0, h => by simp [beB]
  | k + 1, j + 1, h => by
    simp only [beB, List.getElem?_cons_succ]
    rw [beB_get n k j (by omega)]
    congr 5
    omega
theorem padB_succ (b : List UInt8) (k : Nat) (hk : k < 8) : padB b (k + 1) = padB b k ++ [UInt8.ofNat (8 * b.length / 256 ^ (7 - k) % 256)] := by
  unfold padB
  have hl : k < (beB 8 (8 * b.length)).length := by rw [beB_length]; exact hk
  rw [List.take_succ_eq_append_getElem hl, List.append_assoc]
  congr 2
  have h1 := beB_get (8 * b.length) 8 k hk
  rw [List.getElem?_eq_getElem hl] at h1
  simpa using h1
theorem pad_test (n k : Nat) (hk : k ≤ padN n) : ((n + 1 + k) % 64 = 56 ↔ k = padN n) := by
  unfold padN at *
  omega

end Go.Proofs.YtcadfccijeodbaaDoor

/- The walk of the document's own padding, for blocks of 64 bytes and a length of 8. Each theorem names its own conditions. -/
namespace Go.Proofs.YtcadfccijeodbaaDoor
open Go.RowKit
set_option linter.unusedVariables false
set_option linter.unusedSimpArgs false

set_option maxRecDepth 100000 in
set_option maxHeartbeats 4000000 in
theorem padded_any (v : Value) (b : List UInt8) (w : World) (hv : Row1 w v (b.map bval)) (hb : b.length ≤ 1099511627776) :
    Calls Tryd.prog 33 #[v, .int .i64 64, .int .i64 8] w fun e w' => ∃ x, e = .returned x ∧ Row1 w' x ((padded b).map bval) ∧ Below w.heap.size w w' := by
  obtain ⟨i0, hi, hz0, hz1, hz2⟩ := info_parts Tryd.info5
  have HRW := Lib.hid hv
  obtain ⟨a, cap, hva, r1, r2, r3, r4⟩ := id hv
  rw [List.length_map] at hva r1
  unfold maxLen at r2
  subst hva
  have HI0 := Lib.hid hi
  have HZ0 := Lib.hid hz0
  have HZ1 := Lib.hid hz1
  have HZ2 := Lib.hid hz2
  have HLM : Hid ((b.map bval).length = b.length) := Lib.hid (List.length_map _)
  have HNIL : Hid (w.ownsRow w.heap.size 5 1 (.slice none 0 0) 0 []) := Lib.hid (World.ownsRow_nil _ _ _ _)
  clear hv r3 r4 hi hz0 hz1 hz2
  go_enter Tryd.func33, Tryd.ntmps33
  go_wp2_with (first | (at_builtin; refine wpList_append_row rfl _ _ 34 rfl w.heap.size 5 i0 (.int .u8 0) 1 Tryd.underlying34 HI0.out HZ0.out HZ1.out HZ2.out rfl _ 0 [] rfl HNIL.out rfl HRW.out (bval_one _) (by rw [HLM.out]; unfold maxLen; omega) (by rw [HLM.out]; omega) (Nat.le_refl _) ?_; intro v1 w1 hown1 hgrow1; have HO1 := Lib.hid hown1; have HX1 := Lib.hid (ext_own (Ext.refl w) HNIL.out (Nat.le_refl _) hgrow1); have HS1 := Lib.hid hgrow1.size; clear hown1 hgrow1) | (at_builtin; refine wpList_append_row rfl _ _ 34 rfl w.heap.size 5 i0 (.int .u8 0) 1 Tryd.underlying34 HI0.out HZ0.out HZ1.out HZ2.out rfl _ (0 + (b.map bval).length) _ rfl (HO1.out.alloc _) rfl (Row1.made _ #[.int .u8 128] _ _ 1 ([128].map bval) rfl rfl rfl (by unfold maxLen; omega)) (bval_one _) (by rw [HLM.out]; unfold maxLen; simp; omega) (by rw [HLM.out]; simp; omega) (by simp; have := HS1.out; omega) ?_; intro v2 w2 hown2 hgrow2))
  have HX2 := Lib.hid (ext_own (HX1.out.trans (Ext.alloc w1 (.cells #[.int .u8 128] 5))) (HO1.out.alloc _) (Nat.le_refl _) hgrow2)
  have HO2 : Hid (w2.ownsRow w.heap.size 5 1 v2 (padA b 0).length ((padA b 0).map bval)) := Lib.hid (by
    have h := hown2
    rw [List.nil_append, ← List.map_append] at h
    have e : 0 + (b.map bval).length + ([128].map bval).length = (padA b 0).length := by simp [padA]
    rw [e] at h
    simpa [padA] using h)
  clear hown2 hgrow2 HO1 HX1 HS1
  go_loopw [7] (fun x wr => ∃ (k : Nat), k ≤ padN b.length ∧ wr.ownsRow w.heap.size 5 1 x (padA b k).length ((padA b k).map bval) ∧ Ext w wr) (fun x _ => b.length + 1 + padN b.length - lenOf x)
  case atStart => exact ⟨0, by omega, HO2.out, HX2.out⟩
  case round =>
    clear HO2 HX2
    obtain ⟨k, hk, ho, hE⟩ := hrel
    obtain ⟨a2, cap2, rfl, s1, s2, s3, s4⟩ := id (Row1.of_own ho)
    have hpl := padA_length b k
    have ht := pad_test b.length k hk
    have hp63 : padN b.length < 64 := by unfold padN; omega
    have HO := Lib.hid ho
    have HE := Lib.hid hE
    rw [List.length_map, hpl] at s1 HO ⊢
    unfold maxLen at s2
    clear ho hE s3 s4
    by_cases hkn : k = padN b.length
    · subst hkn
      have hd : (((b.length + 1 + padN b.length : Nat) : Int) % 64 != 56) = false := by simp; omega
      have HO2 : Hid (wr.ownsRow w.heap.size 5 1 (.slice a2 (b.length + 1 + padN b.length) cap2) (padB b 0).length ((padB b 0).map bval)) := Lib.hid (own_eq HO.out (by simp [padB, padA]; omega) (by simp [padB]))
      clear HO ht hpl s1 s2
      generalize b.length + 1 + padN b.length = n at *
      go_wp2_with fail
      obtain ⟨wo, rfl⟩ : ∃ wo : World, wo = wr := ⟨_, rfl⟩
      go_loopw [7, 9] (fun x i wr => ∃ (j : Nat), j ≤ 8 ∧ i = .int .i64 (7 - (j : Int)) ∧ wr.ownsRow w.heap.size 5 1 x (padB b j).length ((padB b j).map bval) ∧ Ext w wr) (fun _ i _ => (intOf i + 1).toNat)
      case atStart => exact ⟨0, by omega, rfl, HO2.out, HE.out⟩
      case round =>
        clear HO2 HE
        obtain ⟨j, hj, rfl, ho, hE⟩ := hrel
        have HO := Lib.hid ho
        have HE := Lib.hid hE
        have HS := Lib.hid hE.size
        have hpb : (padB b j).length ≤ 1099511627900 := by simp [padB, padA]; omega
        by_cases hj8 : j < 8
        · have HBS := Lib.hid (padB_succ b j hj8)
          obtain ⟨k, hk⟩ : ∃ k : Nat, k = 7 - j := ⟨_, rfl⟩
          have hk2 : (7 : Int) - (j : Int) = (k : Int) := by omega
          rw [hk2]
          have HJ : Hid (j + k = 7) := Lib.hid (by omega)
          rw [← hk] at HBS
          clear ho hE hk hk2 hj hj8
          have k0 : (0 : Int) ≤ (k : Int) := Int.natCast_nonneg _
          have k8 : (k : Int) < 8 := by have := HJ.out; omega
          obtain ⟨s, hs⟩ : ∃ s : Nat, s = 8 * k := ⟨_, rfl⟩
          have hs2 : 8 * (k : Int) = (s : Int) := by omega
          have s64 : (s : Int) < 64 := by omega
          have e1 : (2 : Int) ^ s = ((256 ^ k : Nat) : Int) := by rw [hs, Int.pow_mul]; simp
          have hv2 : 8 * (b.length : Int) / 2 ^ s = ((8 * b.length / 256 ^ k : Nat) : Int) := by
            have e2 : 8 * (b.length : Int) = ((8 * b.length : Nat) : Int) := by omega
            rw [e1, e2, ← Int.natCast_ediv]
          have hvb : 8 * b.length / 256 ^ k ≤ 8 * b.length := Nat.div_le_self _ _
          have hq : ((UInt8.ofNat (8 * b.length / 256 ^ k % 256)).toNat : Int) = ((8 * b.length / 256 ^ k : Nat) : Int) % 256 := by rw [UInt8.toNat_ofNat']; omega
          have HQ := Lib.hid hq
          generalize UInt8.ofNat (8 * b.length / 256 ^ k % 256) = c at *
          generalize 8 * b.length / 256 ^ k = q at *
          have hm := and_i64_255 (q : Int) (by omega) (by omega)
          have HBV : Hid (bval c = .int .u8 ((q : Int) % 256)) := Lib.hid (by unfold bval; rw [hq])
          clear hs hq e1
          go_wp2_with (at_builtin; refine wpList_append_row rfl _ _ 34 rfl w.heap.size 5 i0 (.int .u8 0) 1 Tryd.underlying34 HI0.out HZ0.out HZ1.out HZ2.out rfl _ (padB b j).length _ rfl (HO.out.alloc _) rfl (Row1.made _ #[.int .u8 ((q : Int) % 256)] _ _ 1 [.int .u8 ((q : Int) % 256)] rfl rfl rfl (by unfold maxLen; omega)) (by intro u hu; simp at hu; subst hu; rfl) (by unfold maxLen; simp; omega) (by simp; omega) (by simp; have := HS.out; omega) ?_; intro v3 w3 hown3 hgrow3)
          go_roundw
          case rel =>
            refine ⟨j + 1, by have := HJ.out; omega, ?_, own_eq hown3 (by rw [HBS.out]; simp) (by rw [HBS.out, List.map_append, List.map_cons, List.map_nil, HBV.out]), ext_own (HE.out.trans (Ext.alloc wr _)) (HO.out.alloc _) (Nat.le_refl _) hgrow3⟩
            have := HJ.out
            rw [show (k : Int) - 1 = 7 - ((j + 1 : Nat) : Int) from by omega]
          case measure => simp [intOf]
        · have hj8' : j = 8 := by omega
          subst hj8'
          have hm1 : (7 : Int) - ((8 : Nat) : Int) = -1 := rfl
          rw [hm1]
          have hr0 := Row1.of_own ho
          rw [padB_full] at hr0
          have HR := Lib.hid hr0
          clear hr0
          clear ho hE hj hj8 HO hpb
          go_wp2_with fail
          go_ret
          exact ⟨_, rfl, HR.out, HE.out⟩
    · have hd : (((b.length + 1 + k : Nat) : Int) % 64 != 56) = true := by simp; omega
      have hL : ((b.length + 1 + k : Nat) : Int) = (b.length : Int) + 1 + (k : Int) := by omega
      have HS := Lib.hid HE.out.size
      have HK : Hid (k < padN b.length) := Lib.hid (by omega)
      clear ht hL
      generalize hn : b.length + 1 + k = n at *
      have HN := Lib.hid hn
      have hn9 : n ≤ 1099511627900 := by omega
      clear hn hpl hkn hk
      go_wp2_with (at_builtin; refine wpList_append_row rfl _ _ 34 rfl w.heap.size 5 i0 (.int .u8 0) 1 Tryd.underlying34 HI0.out HZ0.out HZ1.out HZ2.out rfl _ n _ rfl (HO.out.alloc _) rfl (Row1.made _ #[.int .u8 0] _ _ 1 ([0].map bval) rfl rfl rfl (by unfold maxLen; omega)) (bval_one _) (by unfold maxLen; simp; omega) (by simp; omega) (by simp; have := HS.out; omega) ?_; intro v3 w3 hown3 hgrow3)
      go_roundw
      case rel =>
        refine ⟨k + 1, HK.out, own_eq hown3 (by rw [padA_length, ← HN.out]; simp; omega) (by rw [padA_succ, List.map_append]), ext_own (HE.out.trans (Ext.alloc wr (.cells #[.int .u8 0] 5))) (HO.out.alloc _) (Nat.le_refl _) hgrow3⟩
      case measure =>
        rw [ownRow_len hown3]
        have := HN.out
        have := HK.out
        simp [lenOf]
        omega
end Go.Proofs.YtcadfccijeodbaaDoor

/- Bytes that lie in a block below, whatever is made above. Each theorem names its own conditions. -/
namespace Go.Proofs.YtcadfccijeodbaaDoor
open Go.RowKit
set_option linter.unusedVariables false
set_option linter.unusedSimpArgs false

/-- Bytes that lie in a block, below B0. -/
def MsgAt (B0 c off : Nat) (m : List UInt8) (w : World) : Prop := c < B0 ∧ B0 ≤ w.heap.size ∧ ∀ j, j < m.length → w.cell? ⟨c, off + j, none⟩ = some (.int .u8 ((m.getD j 0).toNat : Int))
theorem MsgAt.ext {B0 c off : Nat} {m : List UInt8} {w w' : World} (h : MsgAt B0 c off m w) (he : Ext w w') : MsgAt B0 c off m w' :=
  ⟨h.1, Nat.le_trans h.2.1 he.size, fun j hj => by rw [← h.2.2 j hj]; exact he.cell (p := ⟨c, off + j, none⟩) (Nat.lt_of_lt_of_le h.1 h.2.1)⟩
theorem MsgAt.drew {B0 c off : Nat} {m : List UInt8} {w : World} (h : MsgAt B0 c off m w) : MsgAt B0 c off m w.drew := h
theorem MsgAt.far {B0 c off : Nat} {m : List UInt8} {w : World} (h : MsgAt B0 c off m w) {a : Addr} (ha : a.block ≠ c) (v : Value) : MsgAt B0 c off m (w.setCell a v) :=
  ⟨h.1, by simpa [World.setCell] using h.2.1, fun j hj => by rw [← h.2.2 j hj]; exact World.cell?_setCell_other _ _ _ _ (by rintro rfl; exact ha rfl)⟩
theorem MsgAt.grown {B0 c off : Nat} {m : List UInt8} {w w' : World} {r : Option Nat} (h : MsgAt B0 c off m w) (hg : w.grownBy w' r) (hr : r ≠ some c) : MsgAt B0 c off m w' :=
  ⟨h.1, Nat.le_trans h.2.1 hg.size, fun j hj => by
    rw [← h.2.2 j hj]
    have := hg.block c (Nat.lt_of_lt_of_le h.1 h.2.1) (fun e => hr e.symm)
    simp [World.cell?, this]⟩
theorem not_bytes {K : IntKind} (hK : K ≠ .u8) {zs : List Int} {i : Nat} {z : Int} : (ints K zs)[i]? ≠ some (.int .u8 z) := by
  unfold ints
  rw [List.getElem?_map]
  cases zs[i]? <;> simp [hK]

end Go.Proofs.YtcadfccijeodbaaDoor

/- What the walks of RefSha need and no function of the document. Each theorem names its own conditions. -/
namespace Go.Proofs.YtcadfccijeodbaaDoor
open Go.RowKit
set_option linter.unusedVariables false
set_option linter.unusedSimpArgs false

theorem outB_getD (h : List W32) (i : Nat) (hi : i < 32) : (outB h).getD i 0 = UInt8.ofNat ((h.getD (i / 4) 0#32).toNat / 2 ^ (24 - 8 * (i % 4)) % 256) := by
  unfold outB
  simp [List.getD, hi]
theorem sha_and_u32_255 (a : W32) : bits .and .u32 (wi a) 255 = ((a.toNat % 256 : Nat) : Int) := by
  have h : (255 : Int) = wi 255#32 := rfl
  rw [h, wi_and]
  unfold wi
  rw [BitVec.toNat_and]
  have h2 : (255#32).toNat = 2 ^ 8 - 1 := by decide
  rw [h2, Nat.and_two_pow_sub_one_eq_mod]
theorem h256_vals : ints .u32 (ws H256) = [.int .u32 1779033703, .int .u32 3144134277, .int .u32 1013904242, .int .u32 2773480762, .int .u32 1359893119, .int .u32 2600822924, .int .u32 528734635, .int .u32 1541459225] := rfl

end Go.Proofs.YtcadfccijeodbaaDoor

/- The walk of the document's own Sha. Each theorem names its own conditions. -/
namespace Go.Proofs.YtcadfccijeodbaaDoor
open Go.RowKit
set_option linter.unusedVariables false
set_option linter.unusedSimpArgs false

/-- The variable k256 reads as the text lays it. -/
def GlobK (w : World) : Prop := w.rangeAt 0 0 (ints .u32 (ws K256))
theorem GlobK.ext {w w' : World} (h : GlobK w) (hb : Ext w w') : GlobK w' := glob_ext h hb
theorem GlobK.cell {w : World} (h : GlobK w) {j : Nat} (hj : j < 64) : w.cell? ⟨0, j, none⟩ = some (.int .u32 (wi (K256.getD j 0#32))) := by
  have := h j (.int .u32 (wi (K256.getD j 0#32))) (by rw [ints_get (by rw [ws_length]; exact hj), ws_getD])
  simpa using this
set_option maxRecDepth 100000 in
set_option maxHeartbeats 8000000 in
theorem rSha_any (v : Value) (b : List UInt8) (w : World) (hv : Row1 w v (b.map bval)) (hb : b.length ≤ 1099511627776) (hG : GlobK w) :
    Calls Tryd.prog 22 #[v] w fun e w' => e = .returned (.agg ((sha256 b).map bval).toArray) ∧ Below w.heap.size w w' := by
  have HRW := Lib.hid hv
  have HG := Lib.hid hG
  have HB := Lib.hid (boxes2 w (ints .u8 (List.replicate 32 0)) (ints .u32 (List.replicate 8 0)) 26 48)
  have HBL := Lib.hid hb
  clear hv hG hb
  go_enter Tryd.func22, Tryd.ntmps22
  go_wp2_with (refine wpList_store_blk rfl _ _ _ rfl (w.heap.size + 1) (ints .u32 (ws H256)) rfl rfl _ _ HB.out.2.1 rfl (by rw [ints_length]; exact Tryd.arr48) (ints_one _ _) ?_; intro w1 hb1 hg1)
  have H1 := HB.out.1.grown hg1 (by simp)
  have HE := ext_grown HB.out.2.2 hg1 (by omega)
  have H2 := hb1
  obtain ⟨A, hA⟩ : ∃ A, A = w.heap.size := ⟨_, rfl⟩
  rw [← hA] at H1 H2 ⊢
  have hA2 : w.heap.size ≤ A := by omega
  have HP := Lib.hid (padded_any v b w1 (HRW.out.below HE) HBL.out)
  have H1 := Lib.hid H1
  have H2 := Lib.hid H2
  have HE := Lib.hid HE
  clear hA hb1 hg1 HB
  refine HP.out.mono ?_
  rintro e w2 ⟨mv, rfl, hrow, hb2⟩
  have H1 := Lib.hid (ext_blk H1.out hb2)
  have H2 := Lib.hid (ext_blk H2.out hb2)
  have HE := Lib.hid (HE.out.trans hb2)
  have hpl := padded_length b
  obtain ⟨m, hm⟩ : ∃ m, m = padded b := ⟨_, rfl⟩
  obtain ⟨N, hN⟩ : ∃ N, N = (b.length + 72) / 64 := ⟨_, rfl⟩
  have HM := Lib.hid hm
  have HN := Lib.hid hN
  rw [← hm] at hrow hpl
  rw [← hN] at hpl
  have HR := Lib.hid hrow
  obtain ⟨a, cap, rfl, r1, r2, r3, r4⟩ := id hrow
  rw [List.length_map, hpl] at r1 HR ⊢
  unfold maxLen at r2
  obtain ⟨b', off, rfl, hbs, hcell⟩ := r4 (by intro e; have h := congrArg List.length e; rw [List.length_map, hpl] at h; simp only [List.length_nil] at h; omega)
  have hms : MsgAt w2.heap.size b' off m w2 := ⟨hbs, Nat.le_refl _, fun j hj => by rw [hcell j (by rw [List.length_map]; exact hj), bval_get hj]⟩
  have hbA : b' ≠ A + 1 := by
    rintro rfl
    have h1 := hms.2.2 0 (by omega)
    rw [H2.out.cell] at h1
    exact (not_bytes (by decide)) h1
  have HBA := Lib.hid hbA
  have HMS := Lib.hid hms
  have HBS := Lib.hid hbs
  have hNb : N ≤ 17179869300 := by have := HBL.out; omega
  have HML := Lib.hid hpl
  clear hb2 hrow hm hN hpl r3 r4 HP HRW hms hcell hbA hbs
  go_wp2_with fail
  go_loopw [5] (fun iv wr => ∃ (n : Nat), n ≤ N ∧ iv = .int .i64 (64 * (n : Int)) ∧ Blk wr (A + 1) (ints .u32 (ws (hRun m n))) 48 ∧ Blk wr A (ints .u8 (List.replicate 32 0)) 26 ∧ MsgAt w2.heap.size b' off m wr ∧ Ext w wr) (fun iv _ => 64 * N - (intOf iv).toNat)
  case atStart => exact ⟨0, by omega, rfl, H2.out, H1.out, HMS.out, HE.out⟩
  case round =>
    clear H1 H2 HE
    obtain ⟨n, hn, rfl, hb2, hb1, he2, hbel⟩ := hrel
    have n0 : (0 : Int) ≤ 64 * (n : Int) := by omega
    by_cases hlt : n < N
    · have n1 : 64 * (n : Int) < 64 * (N : Int) := by omega
      have H1 := Lib.hid hb1
      have H2 := Lib.hid hb2
      have HE := Lib.hid hbel
      have HE2 := Lib.hid he2
      clear hb1 hb2 hbel he2
      have HZ := Lib.hid (Blk.made wr (ints .u32 (List.replicate 64 0)) 62)
      have hDA := H2.out.lt
      have H1 := Lib.hid (H1.out.alloc (.cells (ints .u32 (List.replicate 64 0)).toArray 62))
      have H2 := Lib.hid (H2.out.alloc (.cells (ints .u32 (List.replicate 64 0)).toArray 62))
      have HE2' := HE2.out.2.1
      have HE := Lib.hid (HE.out.trans (Ext.alloc wr (.cells (ints .u32 (List.replicate 64 0)).toArray 62)))
      have HE2 := Lib.hid (HE2.out.ext (Ext.alloc wr (.cells (ints .u32 (List.replicate 64 0)).toArray 62)))
      have hD2 : w2.heap.size ≤ wr.heap.size := HE2'
      clear HE2'
      go_upto_region 7 with (fail)
      change Code.wp _ _ _ _ (wr.alloc (.cells (ints .u32 (List.replicate 64 0)).toArray 62))
      generalize wr.alloc (.cells (ints .u32 (List.replicate 64 0)).toArray 62) = w3 at *
      generalize wr.heap.size = D at *
      go_wp2_with fail
      go_loopw [7] (fun iv wr => ∃ (k : Nat), k ≤ 16 ∧ iv = .int .i64 (k : Int) ∧ Blk wr D (ints .u32 (ws (wTop m (64 * n) k))) 62 ∧ Blk wr (A + 1) (ints .u32 (ws (hRun m n))) 48 ∧ Blk wr A (ints .u8 (List.replicate 32 0)) 26 ∧ MsgAt w2.heap.size b' off m wr ∧ Ext w wr) (fun iv _ => 16 - (intOf iv).toNat)
      case atStart => exact ⟨0, by omega, rfl, by rw [wTop, ws_zeros]; exact HZ.out, H2.out, H1.out, HE2.out, HE.out⟩
      case round =>
        clear H1 H2 HE HE2 HZ
        obtain ⟨k, hk, rfl, hbw, hb2, hb1, he2, hbel⟩ := hrel
        have k0 : (0 : Int) ≤ (k : Int) := Int.natCast_nonneg _
        have hwl := wTop_length m (64 * n) k
        by_cases hlk : k < 16
        · have k1 : (k : Int) < 16 := by omega
          have k64 : (k : Int) < 64 := by omega
          obtain ⟨p, hp⟩ : ∃ p : Nat, p = 64 * n + 4 * k := ⟨_, rfl⟩
          have hp1 : 64 * (n : Int) + 4 * (k : Int) = (p : Int) := by omega
          have hN1 : ((64 * N : Nat) : Int) = 64 * (N : Int) := by omega
          have hpm : p + 3 < m.length := by rw [HML.out]; omega
          have hpN : p + 3 < 64 * N := by omega
          have cc : ∀ j, j ≤ 3 → wr.cell? ⟨b', off + (p + j), none⟩ = some (.int .u8 ((m.getD (p + j) 0).toNat : Int)) := fun j hj => by
            exact he2.2.2 (p + j) (by omega)
          have c0 := cc 0 (by omega)
          have c1 := cc 1 (by omega)
          have c2 := cc 2 (by omega)
          have c3 := cc 3 (by omega)
          simp only [Nat.add_zero] at c0
          have d0 := UInt8.toNat_lt (m.getD p 0)
          have d1 := UInt8.toNat_lt (m.getD (p + 1) 0)
          have d2 := UInt8.toNat_lt (m.getD (p + 2) 0)
          have d3 := UInt8.toNat_lt (m.getD (p + 3) 0)
          have HBE : Hid (beW m p = BitVec.ofNat 32 (16777216 * (m.getD p 0).toNat + 65536 * (m.getD (p + 1) 0).toNat + 256 * (m.getD (p + 2) 0).toNat + (m.getD (p + 3) 0).toNat)) := Lib.hid rfl
          generalize (m.getD p 0).toNat = x0 at *
          generalize (m.getD (p + 1) 0).toNat = x1 at *
          generalize (m.getD (p + 2) 0).toNat = x2 at *
          generalize (m.getD (p + 3) 0).toNat = x3 at *
          have e1 := hbw.cell k
          rw [ints_get (by rw [ws_length]; omega)] at e1
          have f1 := hbw.free k
          generalize (ws (wTop m (64 * n) k)).getD k 0 = u at e1
          have p0 : (p : Int) + 3 < 64 * (N : Int) := by omega
          have p1 : (p : Int) < 64 * (N : Int) := by omega
          have p2 : (p : Int) + 1 < 64 * (N : Int) := by omega
          have p3 : (p : Int) + 2 < 64 * (N : Int) := by omega
          have q0 : (0 : Int) ≤ (p : Int) + 1 ∧ (0 : Int) ≤ (p : Int) + 2 ∧ (0 : Int) ≤ (p : Int) + 3 := by omega
          have HST : Hid (wTop m (64 * n) (k + 1) = (wTop m (64 * n) k).set k (beW m p)) := Lib.hid (by rw [hp]; rfl)
          have HWB := Lib.hid hbw
          have H1 := Lib.hid hb1
          have H2 := Lib.hid hb2
          have HE := Lib.hid hbel
          have HE2 := Lib.hid he2
          have HP := Lib.hid hp
          clear hbw hb1 hb2 hbel he2 hwl cc hp hN1
          go_upto_region 11 with (fail)
          clear hp1
          go_region
          go_wp2_with fail
          go_roundw
          case rel =>
            refine ⟨k + 1, by omega, by go_num, ?_, (H2.out.far (by simp <;> omega) _).drewN 1, (H1.out.far (by simp <;> omega) _).drewN 1, (HE2.out.far (by have := HBS.out; simp; omega) _).drew, (Below.setCell HE.out (by simp <;> omega) _).drew⟩
            · rw [HST.out, ← ws_set, HBE.out, ← or4 x0 x1 x2 x3 d0 d1 d2 d3]
              exact (HWB.out.seti k _).drewN 1
          case measure => simp [intOf]; omega
        · have hk16 : k = 16 := by omega
          have hk17 : (k : Int) = 16 := by omega
          rw [hk17]
          clear hk17
          subst hk16
          have hw0 : wTop m (64 * n) 16 = wSch m (64 * n) 0 := rfl
          rw [hw0] at hbw
          have HWB := Lib.hid hbw
          have H1 := Lib.hid hb1
          have H2 := Lib.hid hb2
          have HE := Lib.hid hbel
          have HE2 := Lib.hid he2
          clear hbw hb1 hb2 hbel he2 hwl hw0
          go_wp2_with fail
          obtain ⟨wo, rfl⟩ : ∃ wo : World, wo = wr := ⟨_, rfl⟩
          go_loopw [9] (fun iv wr => ∃ (q : Nat), q ≤ 48 ∧ iv = .int .i64 ((16 + q : Nat) : Int) ∧ Blk wr D (ints .u32 (ws (wSch m (64 * n) q))) 62 ∧ Blk wr (A + 1) (ints .u32 (ws (hRun m n))) 48 ∧ Blk wr A (ints .u8 (List.replicate 32 0)) 26 ∧ MsgAt w2.heap.size b' off m wr ∧ Ext w wr) (fun iv _ => 64 - (intOf iv).toNat)
          case atStart => exact ⟨0, by omega, rfl, HWB.out, H2.out, H1.out, HE2.out, HE.out⟩
          case round =>
            clear H1 H2 HE HE2 HWB
            obtain ⟨q, hq, rfl, hbw, hb2, hb1, he2, hbel⟩ := hrel
            by_cases hlq : q < 48
            · obtain ⟨i, hi⟩ : ∃ i : Nat, i = 16 + q := ⟨_, rfl⟩
              rw [← hi]
              have i0 : (16 : Int) ≤ (i : Int) := by omega
              have i1 : (i : Int) < 64 := by omega
              have hwl := wSch_length m (64 * n) q
              obtain ⟨j16, hj16⟩ : ∃ j : Nat, j = i - 16 := ⟨_, rfl⟩
              obtain ⟨j15, hj15⟩ : ∃ j : Nat, j = i - 15 := ⟨_, rfl⟩
              obtain ⟨j7, hj7⟩ : ∃ j : Nat, j = i - 7 := ⟨_, rfl⟩
              obtain ⟨j2, hj2⟩ : ∃ j : Nat, j = i - 2 := ⟨_, rfl⟩
              have g16 : (i : Int) - 16 = (j16 : Int) := by omega
              have g15 : (i : Int) - 15 = (j15 : Int) := by omega
              have g7 : (i : Int) - 7 = (j7 : Int) := by omega
              have g2 : (i : Int) - 2 = (j2 : Int) := by omega
              have l16 : (j16 : Int) < 64 := by omega
              have l15 : (j15 : Int) < 64 := by omega
              have l7 : (j7 : Int) < 64 := by omega
              have l2 : (j2 : Int) < 64 := by omega
              have e16 := hbw.cell j16
              rw [ints_get (by rw [ws_length]; omega), ws_getD] at e16
              have e15 := hbw.cell j15
              rw [ints_get (by rw [ws_length]; omega), ws_getD] at e15
              have e7 := hbw.cell j7
              rw [ints_get (by rw [ws_length]; omega), ws_getD] at e7
              have e2 := hbw.cell j2
              rw [ints_get (by rw [ws_length]; omega), ws_getD] at e2
              have e0 := hbw.cell i
              rw [ints_get (by rw [ws_length]; omega), ws_getD] at e0
              have f0 := hbw.free i
              have HST : Hid (wSch m (64 * n) (q + 1) = (wSch m (64 * n) q).set i ((wSch m (64 * n) q).getD j16 0#32 + sg0 ((wSch m (64 * n) q).getD j15 0#32) + (wSch m (64 * n) q).getD j7 0#32 + sg1 ((wSch m (64 * n) q).getD j2 0#32))) := Lib.hid (by rw [hi, hj16, hj15, hj7, hj2, hi]; rfl)
              generalize (wSch m (64 * n) q).getD j16 0#32 = y16 at *
              generalize (wSch m (64 * n) q).getD j15 0#32 = y15 at *
              generalize (wSch m (64 * n) q).getD j7 0#32 = y7 at *
              generalize (wSch m (64 * n) q).getD j2 0#32 = y2 at *
              generalize (wSch m (64 * n) q).getD i 0#32 = y0 at *
              have HWB := Lib.hid hbw
              have H1 := Lib.hid hb1
              have H2 := Lib.hid hb2
              have HE := Lib.hid hbel
              have HE2 := Lib.hid he2
              have HI := Lib.hid hi
              clear hbw hb1 hb2 hbel he2 hwl hi hj16 hj15 hj7 hj2 hq
              go_wp2_with fail
              have w16 : IntKind.i64.wrap (j16 : Int) = (j16 : Int) := IntWalk.i64_in _ (by omega)
              have w7 : IntKind.i64.wrap (j7 : Int) = (j7 : Int) := IntWalk.i64_in _ (by omega)
              have z16 : (0 : Int) ≤ (j16 : Int) := Int.natCast_nonneg _
              have z7 : (0 : Int) ≤ (j7 : Int) := Int.natCast_nonneg _
              go_still_tail 29, (by kernel_rfl)
              still_call ((ror_any _ 7 (by omega) _).mono fun _ _ h => ⟨h.1, h.2.symm⟩)
              repeat still_step
              still_call ((ror_any _ 18 (by omega) _).mono fun _ _ h => ⟨h.1, h.2.symm⟩)
              repeat still_step
              still_call ((ror_any _ 17 (by omega) _).mono fun _ _ h => ⟨h.1, h.2.symm⟩)
              repeat still_step
              still_call ((ror_any _ 19 (by omega) _).mono fun _ _ h => ⟨h.1, h.2.symm⟩)
              repeat still_step
              try refine wpStill_nil ?_
              change wpList _ _ _ _ _ wr.drew
              have e0d : (wr.drew).cell? ⟨D, i, none⟩ = some (.int .u32 (wi y0)) := e0
              have f0d : (wr.drew).frozen? ⟨D, i, none⟩ = false := f0
              have HWB : Hid (Blk wr.drew D _ _) := Lib.hid HWB.out
              have H1 : Hid (Blk wr.drew A _ _) := Lib.hid H1.out
              have H2 : Hid (Blk wr.drew (A + 1) _ _) := Lib.hid H2.out
              have HE : Hid (Ext w wr.drew) := Lib.hid (HE.out.trans (Ext.drew wr))
              have HE2 : Hid (MsgAt w2.heap.size b' off m wr.drew) := Lib.hid (HE2.out.ext (Ext.drew wr))
              clear e0 f0
              generalize wr.drew = w4 at *
              have z0 : (0 : Int) ≤ (i : Int) := by omega
              have x1 : bits .xor .u32 (bits .xor .u32 (wi (rotr y15 7)) (wi (rotr y15 18))) (wi y15 / 8) = wi (sg0 y15) := by rw [show (8 : Int) = 2 ^ 3 from rfl, wi_shr, wi_xor, wi_xor]; rfl
              have x2 : bits .xor .u32 (bits .xor .u32 (wi (rotr y2 17)) (wi (rotr y2 19))) (wi y2 / 1024) = wi (sg1 y2) := by rw [show (1024 : Int) = 2 ^ 10 from rfl, wi_shr, wi_xor, wi_xor]; rfl
              have HX1 := Lib.hid x1
              have HX2 := Lib.hid x2
              clear x1 x2 w16 w7 z16 z7
              have HWS : Hid ((wi y16 + wi (sg0 y15) + wi y7 + wi (sg1 y2)) % 4294967296 = wi (y16 + sg0 y15 + y7 + sg1 y2)) := Lib.hid (by rw [← wi_add, ← wi_add, ← wi_add, IntKind.wrap_u32, IntKind.wrap_u32, IntKind.wrap_u32]; omega)
              rw [HX1.out, HX2.out]
              go_wp2_with fail
              go_roundw
              case rel =>
                refine ⟨q + 1, by omega, by have := HI.out; subst this; go_num, ?_, H2.out.far (by simp <;> omega) _, H1.out.far (by simp <;> omega) _, HE2.out.far (by have := HBS.out; simp; omega) _, Below.setCell HE.out (by simp <;> omega) _⟩
                rw [HST.out, ← ws_set, ← HWS.out]
                exact HWB.out.seti i _
              case measure => simp [intOf]; omega
            · have hq48 : q = 48 := by omega
              subst hq48
              have HWB := Lib.hid hbw
              have H1 := Lib.hid hb1
              have H2 := Lib.hid hb2
              have HE := Lib.hid hbel
              have HE2 := Lib.hid he2
              have HHR : Hid (hRun m (n + 1) = hAdd (hRun m n) (vRun (hRun m n) (wSch m (64 * n) 48) 64) 8) := Lib.hid rfl
              have HH8 := Lib.hid (hRun_length m n)
              have HW64 := Lib.hid (wSch_length m (64 * n) 48)
              clear hbw hb2 hb1 he2 hbel
              generalize wSch m (64 * n) 48 = W at *
              generalize hRun m n = h at *
              have HIh : Hid ((Tryd.prog.info? 48).map (·.size) = some (ints .u32 (ws h)).length) := Lib.hid (by rw [ints_length, ws_length, HH8.out]; exact Tryd.arr48)
              have HEZ := Lib.hid (Blk.made wr (ints .u32 (List.replicate 8 0)) 48)
              have HWL := Lib.hid HWB.out.lt
              have H1L := Lib.hid H1.out.lt
              have H2L := Lib.hid H2.out.lt
              have K1 := Lib.hid (H1.out.alloc (.cells (ints .u32 (List.replicate 8 0)).toArray 48))
              have K2 := Lib.hid (H2.out.alloc (.cells (ints .u32 (List.replicate 8 0)).toArray 48))
              have KW := Lib.hid (HWB.out.alloc (.cells (ints .u32 (List.replicate 8 0)).toArray 48))
              have HS := Lib.hid HE.out.size
              have HS2 := Lib.hid HE2.out.2.1
              have KE := Lib.hid (HE.out.trans (Ext.alloc wr (.cells (ints .u32 (List.replicate 8 0)).toArray 48)))
              have KE2 := Lib.hid (HE2.out.ext (Ext.alloc wr (.cells (ints .u32 (List.replicate 8 0)).toArray 48)))
              have HLh : Hid ((ints .u32 (ws h)).length = (ints .u32 (List.replicate 8 0)).length) := Lib.hid (by rw [ints_length, ws_length, HH8.out, ints_length, List.length_replicate])
              go_upto_region 19 with (first | (refine wpList_load_blk rfl _ _ rfl (A + 1) rfl _ _ _ _ H2.out Tryd.underlying48 HIh.out ?_) | (refine wpList_store_blk rfl _ _ _ rfl wr.heap.size (ints .u32 (ws h)) rfl rfl _ _ HEZ.out HLh.out HIh.out (ints_one _ _) ?_; intro wq hbq hgq))
              have H1 := Lib.hid (K1.out.grown hgq (by have := H1L.out; simp; omega))
              have H2 := Lib.hid (K2.out.grown hgq (by have := H2L.out; simp; omega))
              have HWB := Lib.hid (KW.out.grown hgq (by have := HWL.out; simp; omega))
              have HE := Lib.hid (ext_grown KE.out hgq HS.out)
              have HE2 := Lib.hid (KE2.out.grown hgq (by have := HBS.out; have := HS2.out; simp; omega))
              have HVB := Lib.hid hbq
              have HDE : Hid (D < wr.heap.size) := HWL
              have HAE : Hid (A + 1 < wr.heap.size) := H2L
              generalize wr.heap.size = E at *
              clear hbq hgq HEZ H1L H2L K1 K2 KW KE KE2 HLh HS
              go_wp2_with fail
              obtain ⟨wo, rfl⟩ : ∃ wo : World, wo = wq := ⟨_, rfl⟩
              go_loopw [13] (fun iv wr => ∃ (k : Nat), k ≤ 64 ∧ iv = .int .i64 (k : Int) ∧ Blk wr E (ints .u32 (ws (vRun h W k))) 48 ∧ Blk wr D (ints .u32 (ws W)) 62 ∧ Blk wr (A + 1) (ints .u32 (ws h)) 48 ∧ Blk wr A (ints .u8 (List.replicate 32 0)) 26 ∧ MsgAt w2.heap.size b' off m wr ∧ Ext w wr) (fun iv _ => 64 - (intOf iv).toNat)
              case atStart => exact ⟨0, by omega, rfl, HVB.out, HWB.out, H2.out, H1.out, HE2.out, HE.out⟩
              case round =>
                clear HVB HWB H1 H2 HE HE2
                obtain ⟨k, hk, rfl, hbv, hbw, hb2, hb1, he2, hbel⟩ := hrel
                have HVB := Lib.hid hbv
                have HWB := Lib.hid hbw
                have H1 := Lib.hid hb1
                have H2 := Lib.hid hb2
                have HE := Lib.hid hbel
                have HE2 := Lib.hid he2
                have HVL := Lib.hid (vRun_length h W HH8.out k)
                have k0 : (0 : Int) ≤ (k : Int) := Int.natCast_nonneg _
                clear hbv hbw hb2 hb1 he2 hbel
                by_cases hlr : k < 64
                · have kr : (k : Int) < 64 := by omega
                  have HWK : Hid (∀ w', Blk w' D (ints .u32 (ws W)) 62 → w'.cell? ⟨D, k, none⟩ = some (.int .u32 (wi (W.getD k 0#32)))) := Lib.hid (fun w' h => blk_w h (by rw [HW64.out]; exact hlr))
                  have HKK : Hid (∀ w', Ext wr w' → w'.cell? ⟨0, k, none⟩ = some (.int .u32 (wi (K256.getD k 0#32)))) := Lib.hid (fun w' h => (HG.out.ext (HE.out.trans h)).cell hlr)
                  have HRN : Hid (vRun h W (k + 1) = rnd (vRun h W k) (K256.getD k 0#32) (W.getD k 0#32)) := Lib.hid rfl
                  unfold rnd at HRN
                  generalize K256.getD k 0#32 = kk at *
                  generalize W.getD k 0#32 = wk at *
                  generalize vRun h W k = vv at *
                  have HVC : Hid (∀ j, j < 8 → ∀ w', Blk w' E (ints .u32 (ws vv)) 48 → ∀ x, x = vv.getD j 0#32 → w'.cell? ⟨E, j, none⟩ = some (.int .u32 (wi x))) := Lib.hid (fun j hj w' hb x hx => by rw [hx]; exact blk_w hb (by rw [HVL.out]; exact hj))
                  have hvb := HVB.out
                  have b0 := blk_w hvb (j := 0) (by rw [HVL.out]; omega)
                  have b1 := blk_w hvb (j := 1) (by rw [HVL.out]; omega)
                  have b2 := blk_w hvb (j := 2) (by rw [HVL.out]; omega)
                  have b3 := blk_w hvb (j := 3) (by rw [HVL.out]; omega)
                  have b4 := blk_w hvb (j := 4) (by rw [HVL.out]; omega)
                  have b5 := blk_w hvb (j := 5) (by rw [HVL.out]; omega)
                  have b6 := blk_w hvb (j := 6) (by rw [HVL.out]; omega)
                  have b7 := blk_w hvb (j := 7) (by rw [HVL.out]; omega)
                  obtain ⟨v0, hv0⟩ : ∃ x, x = vv.getD 0 0#32 := ⟨_, rfl⟩
                  have HVE0 := Lib.hid hv0
                  rw [← hv0] at b0 HRN
                  clear hv0
                  obtain ⟨v1, hv1⟩ : ∃ x, x = vv.getD 1 0#32 := ⟨_, rfl⟩
                  have HVE1 := Lib.hid hv1
                  rw [← hv1] at b1 HRN
                  clear hv1
                  obtain ⟨v2, hv2⟩ : ∃ x, x = vv.getD 2 0#32 := ⟨_, rfl⟩
                  have HVE2 := Lib.hid hv2
                  rw [← hv2] at b2 HRN
                  clear hv2
                  obtain ⟨v3, hv3⟩ : ∃ x, x = vv.getD 3 0#32 := ⟨_, rfl⟩
                  have HVE3 := Lib.hid hv3
                  rw [← hv3] at b3 HRN
                  clear hv3
                  obtain ⟨v4, hv4⟩ : ∃ x, x = vv.getD 4 0#32 := ⟨_, rfl⟩
                  have HVE4 := Lib.hid hv4
                  rw [← hv4] at b4 HRN
                  clear hv4
                  obtain ⟨v5, hv5⟩ : ∃ x, x = vv.getD 5 0#32 := ⟨_, rfl⟩
                  have HVE5 := Lib.hid hv5
                  rw [← hv5] at b5 HRN
                  clear hv5
                  obtain ⟨v6, hv6⟩ : ∃ x, x = vv.getD 6 0#32 := ⟨_, rfl⟩
                  have HVE6 := Lib.hid hv6
                  rw [← hv6] at b6 HRN
                  clear hv6
                  obtain ⟨v7, hv7⟩ : ∃ x, x = vv.getD 7 0#32 := ⟨_, rfl⟩
                  have HVE7 := Lib.hid hv7
                  rw [← hv7] at b7 HRN
                  clear hv7
                  clear hvb
                  go_wp2_with fail
                  refine wp_region_all (by kernel_rfl) (by kernel_rfl) ?_
                  refine det_index _ _ _ _ E 8 7 (by rfl) rfl rfl rfl Tryd.underlying48 (by omega) (Tryd.sizeOf47) ?_
                  simp only [Act.put, List.setIfInBounds_toArray, List.set_cons_zero, List.set_cons_succ]
                  refine det_cell _ _ E 7 (.int .u32 (wi v7)) (by rfl) rfl rfl (fun w hw => HVC.out 7 (by omega) _ (ext_blk HVB.out hw) _ HVE7.out) (Tryd.isAgg47) ?_
                  simp only [Act.put, List.setIfInBounds_toArray, List.set_cons_zero, List.set_cons_succ]
                  refine det_move _ (.int .u32 (wi v4)) (by rfl) rfl rfl ?_
                  simp only [Act.put, List.setIfInBounds_toArray, List.set_cons_zero, List.set_cons_succ]
                  refine det_call _ _ _ [.int .u32 (wi v4), .int .u64 6] (.int .u32 (wi (rotr v4 6))) (by rfl) rfl Tryd.call34 rfl (fun w hw => ror_ext v4 6 (by omega) w) ?_
                  simp only [Act.put, List.setIfInBounds_toArray, List.set_cons_zero, List.set_cons_succ]
                  refine det_move _ (.int .u32 (wi v4)) (by rfl) rfl rfl ?_
                  simp only [Act.put, List.setIfInBounds_toArray, List.set_cons_zero, List.set_cons_succ]
                  refine det_call _ _ _ [.int .u32 (wi v4), .int .u64 11] (.int .u32 (wi (rotr v4 11))) (by rfl) rfl Tryd.call34 rfl (fun w hw => ror_ext v4 11 (by omega) w) ?_
                  simp only [Act.put, List.setIfInBounds_toArray, List.set_cons_zero, List.set_cons_succ]
                  refine det_xor _ _ _ _ _ _ _ (wi ((rotr v4 6) ^^^ (rotr v4 11))) (by rfl) rfl rfl rfl (wi_xor _ _) ?_
                  simp only [Act.put, List.setIfInBounds_toArray, List.set_cons_zero, List.set_cons_succ]
                  refine det_move _ (.int .u32 (wi v4)) (by rfl) rfl rfl ?_
                  simp only [Act.put, List.setIfInBounds_toArray, List.set_cons_zero, List.set_cons_succ]
                  refine det_call _ _ _ [.int .u32 (wi v4), .int .u64 25] (.int .u32 (wi (rotr v4 25))) (by rfl) rfl Tryd.call34 rfl (fun w hw => ror_ext v4 25 (by omega) w) ?_
                  simp only [Act.put, List.setIfInBounds_toArray, List.set_cons_zero, List.set_cons_succ]
                  refine det_xor _ _ _ _ _ _ _ (wi (((rotr v4 6) ^^^ (rotr v4 11)) ^^^ (rotr v4 25))) (by rfl) rfl rfl rfl (wi_xor _ _) ?_
                  simp only [Act.put, List.setIfInBounds_toArray, List.set_cons_zero, List.set_cons_succ]
                  refine det_add _ _ _ _ _ _ _ (wi (v7 + (((rotr v4 6) ^^^ (rotr v4 11)) ^^^ (rotr v4 25)))) (by rfl) rfl rfl rfl (wi_add _ _) ?_
                  simp only [Act.put, List.setIfInBounds_toArray, List.set_cons_zero, List.set_cons_succ]
                  refine det_move _ (.int .u32 (wi v4)) (by rfl) rfl rfl ?_
                  simp only [Act.put, List.setIfInBounds_toArray, List.set_cons_zero, List.set_cons_succ]
                  refine det_index _ _ _ _ E 8 5 (by rfl) rfl rfl rfl Tryd.underlying48 (by omega) (Tryd.sizeOf47) ?_
                  simp only [Act.put, List.setIfInBounds_toArray, List.set_cons_zero, List.set_cons_succ]
                  refine det_cell _ _ E 5 (.int .u32 (wi v5)) (by rfl) rfl rfl (fun w hw => HVC.out 5 (by omega) _ (ext_blk HVB.out hw) _ HVE5.out) (Tryd.isAgg47) ?_
                  simp only [Act.put, List.setIfInBounds_toArray, List.set_cons_zero, List.set_cons_succ]
                  refine det_and _ _ _ _ _ _ _ (wi (v4 &&& v5)) (by rfl) rfl rfl rfl (wi_and _ _) ?_
                  simp only [Act.put, List.setIfInBounds_toArray, List.set_cons_zero, List.set_cons_succ]
                  refine det_move _ (.int .u32 (wi v4)) (by rfl) rfl rfl ?_
                  simp only [Act.put, List.setIfInBounds_toArray, List.set_cons_zero, List.set_cons_succ]
                  refine det_winot _ _ v4 (by rfl) rfl rfl ?_
                  simp only [Act.put, List.setIfInBounds_toArray, List.set_cons_zero, List.set_cons_succ]
                  refine det_index _ _ _ _ E 8 6 (by rfl) rfl rfl rfl Tryd.underlying48 (by omega) (Tryd.sizeOf47) ?_
                  simp only [Act.put, List.setIfInBounds_toArray, List.set_cons_zero, List.set_cons_succ]
                  refine det_cell _ _ E 6 (.int .u32 (wi v6)) (by rfl) rfl rfl (fun w hw => HVC.out 6 (by omega) _ (ext_blk HVB.out hw) _ HVE6.out) (Tryd.isAgg47) ?_
                  simp only [Act.put, List.setIfInBounds_toArray, List.set_cons_zero, List.set_cons_succ]
                  refine det_and _ _ _ _ _ _ _ (wi ((~~~v4) &&& v6)) (by rfl) rfl rfl rfl (wi_and _ _) ?_
                  simp only [Act.put, List.setIfInBounds_toArray, List.set_cons_zero, List.set_cons_succ]
                  refine det_xor _ _ _ _ _ _ _ (wi ((v4 &&& v5) ^^^ ((~~~v4) &&& v6))) (by rfl) rfl rfl rfl (wi_xor _ _) ?_
                  simp only [Act.put, List.setIfInBounds_toArray, List.set_cons_zero, List.set_cons_succ]
                  refine det_add _ _ _ _ _ _ _ (wi ((v7 + (((rotr v4 6) ^^^ (rotr v4 11)) ^^^ (rotr v4 25))) + ((v4 &&& v5) ^^^ ((~~~v4) &&& v6)))) (by rfl) rfl rfl rfl (wi_add _ _) ?_
                  simp only [Act.put, List.setIfInBounds_toArray, List.set_cons_zero, List.set_cons_succ]
                  refine det_move _ (.int .i64 ((k : Nat) : Int)) (by rfl) rfl rfl ?_
                  simp only [Act.put, List.setIfInBounds_toArray, List.set_cons_zero, List.set_cons_succ]
                  refine det_index _ _ _ _ 0 64 k (by rfl) rfl rfl rfl Tryd.underlying62 (by omega) (Tryd.sizeOf47) ?_
                  simp only [Act.put, List.setIfInBounds_toArray, List.set_cons_zero, List.set_cons_succ]
                  refine det_cell _ _ 0 k (.int .u32 (wi kk)) (by rfl) rfl rfl (fun w hw => HKK.out _ hw) (Tryd.isAgg47) ?_
                  simp only [Act.put, List.setIfInBounds_toArray, List.set_cons_zero, List.set_cons_succ]
                  refine det_add _ _ _ _ _ _ _ (wi (((v7 + (((rotr v4 6) ^^^ (rotr v4 11)) ^^^ (rotr v4 25))) + ((v4 &&& v5) ^^^ ((~~~v4) &&& v6))) + kk)) (by rfl) rfl rfl rfl (wi_add _ _) ?_
                  simp only [Act.put, List.setIfInBounds_toArray, List.set_cons_zero, List.set_cons_succ]
                  refine det_move _ (.int .i64 ((k : Nat) : Int)) (by rfl) rfl rfl ?_
                  simp only [Act.put, List.setIfInBounds_toArray, List.set_cons_zero, List.set_cons_succ]
                  refine det_index _ _ _ _ D 64 k (by rfl) rfl rfl rfl Tryd.underlying62 (by omega) (Tryd.sizeOf47) ?_
                  simp only [Act.put, List.setIfInBounds_toArray, List.set_cons_zero, List.set_cons_succ]
                  refine det_cell _ _ D k (.int .u32 (wi wk)) (by rfl) rfl rfl (fun w hw => HWK.out _ (ext_blk HWB.out hw)) (Tryd.isAgg47) ?_
                  simp only [Act.put, List.setIfInBounds_toArray, List.set_cons_zero, List.set_cons_succ]
                  refine det_add _ _ _ _ _ _ _ (wi ((((v7 + (((rotr v4 6) ^^^ (rotr v4 11)) ^^^ (rotr v4 25))) + ((v4 &&& v5) ^^^ ((~~~v4) &&& v6))) + kk) + wk)) (by rfl) rfl rfl rfl (wi_add _ _) ?_
                  simp only [Act.put, List.setIfInBounds_toArray, List.set_cons_zero, List.set_cons_succ]
                  refine det_assign _ (.int .u32 (wi ((((v7 + (((rotr v4 6) ^^^ (rotr v4 11)) ^^^ (rotr v4 25))) + ((v4 &&& v5) ^^^ ((~~~v4) &&& v6))) + kk) + wk))) (by rfl) rfl rfl ?_
                  simp only [Act.put, List.setIfInBounds_toArray, List.set_cons_zero, List.set_cons_succ]
                  refine det_nil (fun wx hx => ?_)
                  have HVB := Lib.hid (ext_blk HVB.out hx)
                  have HWB := Lib.hid (ext_blk HWB.out hx)
                  have H1 := Lib.hid (ext_blk H1.out hx)
                  have H2 := Lib.hid (ext_blk H2.out hx)
                  have HE2 := Lib.hid (HE2.out.ext hx)
                  have HE := Lib.hid (HE.out.trans hx)
                  clear hx
                  generalize ht : (((v7 + (((rotr v4 6) ^^^ (rotr v4 11)) ^^^ (rotr v4 25))) + ((v4 &&& v5) ^^^ ((~~~v4) &&& v6))) + kk) + wk = t at *
                  have HT := Lib.hid ht
                  clear ht
                  go_wp2_with fail
                  refine wp_region_all (by kernel_rfl) (by kernel_rfl) ?_
                  refine det_move _ (.int .u32 (wi v0)) (by rfl) rfl rfl ?_
                  simp only [Act.put, List.setIfInBounds_toArray, List.set_cons_zero, List.set_cons_succ]
                  refine det_call _ _ _ [.int .u32 (wi v0), .int .u64 2] (.int .u32 (wi (rotr v0 2))) (by rfl) rfl Tryd.call34 rfl (fun w hw => ror_ext v0 2 (by omega) w) ?_
                  simp only [Act.put, List.setIfInBounds_toArray, List.set_cons_zero, List.set_cons_succ]
                  refine det_move _ (.int .u32 (wi v0)) (by rfl) rfl rfl ?_
                  simp only [Act.put, List.setIfInBounds_toArray, List.set_cons_zero, List.set_cons_succ]
                  refine det_call _ _ _ [.int .u32 (wi v0), .int .u64 13] (.int .u32 (wi (rotr v0 13))) (by rfl) rfl Tryd.call34 rfl (fun w hw => ror_ext v0 13 (by omega) w) ?_
                  simp only [Act.put, List.setIfInBounds_toArray, List.set_cons_zero, List.set_cons_succ]
                  refine det_xor _ _ _ _ _ _ _ (wi ((rotr v0 2) ^^^ (rotr v0 13))) (by rfl) rfl rfl rfl (wi_xor _ _) ?_
                  simp only [Act.put, List.setIfInBounds_toArray, List.set_cons_zero, List.set_cons_succ]
                  refine det_move _ (.int .u32 (wi v0)) (by rfl) rfl rfl ?_
                  simp only [Act.put, List.setIfInBounds_toArray, List.set_cons_zero, List.set_cons_succ]
                  refine det_call _ _ _ [.int .u32 (wi v0), .int .u64 22] (.int .u32 (wi (rotr v0 22))) (by rfl) rfl Tryd.call34 rfl (fun w hw => ror_ext v0 22 (by omega) w) ?_
                  simp only [Act.put, List.setIfInBounds_toArray, List.set_cons_zero, List.set_cons_succ]
                  refine det_xor _ _ _ _ _ _ _ (wi (((rotr v0 2) ^^^ (rotr v0 13)) ^^^ (rotr v0 22))) (by rfl) rfl rfl rfl (wi_xor _ _) ?_
                  simp only [Act.put, List.setIfInBounds_toArray, List.set_cons_zero, List.set_cons_succ]
                  refine det_move _ (.int .u32 (wi v0)) (by rfl) rfl rfl ?_
                  simp only [Act.put, List.setIfInBounds_toArray, List.set_cons_zero, List.set_cons_succ]
                  refine det_index _ _ _ _ E 8 1 (by rfl) rfl rfl rfl Tryd.underlying48 (by omega) (Tryd.sizeOf47) ?_
                  simp only [Act.put, List.setIfInBounds_toArray, List.set_cons_zero, List.set_cons_succ]
                  refine det_cell _ _ E 1 (.int .u32 (wi v1)) (by rfl) rfl rfl (fun w hw => HVC.out 1 (by omega) _ (ext_blk HVB.out hw) _ HVE1.out) (Tryd.isAgg47) ?_
                  simp only [Act.put, List.setIfInBounds_toArray, List.set_cons_zero, List.set_cons_succ]
                  refine det_and _ _ _ _ _ _ _ (wi (v0 &&& v1)) (by rfl) rfl rfl rfl (wi_and _ _) ?_
                  simp only [Act.put, List.setIfInBounds_toArray, List.set_cons_zero, List.set_cons_succ]
                  refine det_move _ (.int .u32 (wi v0)) (by rfl) rfl rfl ?_
                  simp only [Act.put, List.setIfInBounds_toArray, List.set_cons_zero, List.set_cons_succ]
                  refine det_index _ _ _ _ E 8 2 (by rfl) rfl rfl rfl Tryd.underlying48 (by omega) (Tryd.sizeOf47) ?_
                  simp only [Act.put, List.setIfInBounds_toArray, List.set_cons_zero, List.set_cons_succ]
                  refine det_cell _ _ E 2 (.int .u32 (wi v2)) (by rfl) rfl rfl (fun w hw => HVC.out 2 (by omega) _ (ext_blk HVB.out hw) _ HVE2.out) (Tryd.isAgg47) ?_
                  simp only [Act.put, List.setIfInBounds_toArray, List.set_cons_zero, List.set_cons_succ]
                  refine det_and _ _ _ _ _ _ _ (wi (v0 &&& v2)) (by rfl) rfl rfl rfl (wi_and _ _) ?_
                  simp only [Act.put, List.setIfInBounds_toArray, List.set_cons_zero, List.set_cons_succ]
                  refine det_xor _ _ _ _ _ _ _ (wi ((v0 &&& v1) ^^^ (v0 &&& v2))) (by rfl) rfl rfl rfl (wi_xor _ _) ?_
                  simp only [Act.put, List.setIfInBounds_toArray, List.set_cons_zero, List.set_cons_succ]
                  refine det_index _ _ _ _ E 8 1 (by rfl) rfl rfl rfl Tryd.underlying48 (by omega) (Tryd.sizeOf47) ?_
                  simp only [Act.put, List.setIfInBounds_toArray, List.set_cons_zero, List.set_cons_succ]
                  refine det_cell _ _ E 1 (.int .u32 (wi v1)) (by rfl) rfl rfl (fun w hw => HVC.out 1 (by omega) _ (ext_blk HVB.out hw) _ HVE1.out) (Tryd.isAgg47) ?_
                  simp only [Act.put, List.setIfInBounds_toArray, List.set_cons_zero, List.set_cons_succ]
                  refine det_index _ _ _ _ E 8 2 (by rfl) rfl rfl rfl Tryd.underlying48 (by omega) (Tryd.sizeOf47) ?_
                  simp only [Act.put, List.setIfInBounds_toArray, List.set_cons_zero, List.set_cons_succ]
                  refine det_cell _ _ E 2 (.int .u32 (wi v2)) (by rfl) rfl rfl (fun w hw => HVC.out 2 (by omega) _ (ext_blk HVB.out hw) _ HVE2.out) (Tryd.isAgg47) ?_
                  simp only [Act.put, List.setIfInBounds_toArray, List.set_cons_zero, List.set_cons_succ]
                  refine det_and _ _ _ _ _ _ _ (wi (v1 &&& v2)) (by rfl) rfl rfl rfl (wi_and _ _) ?_
                  simp only [Act.put, List.setIfInBounds_toArray, List.set_cons_zero, List.set_cons_succ]
                  refine det_xor _ _ _ _ _ _ _ (wi (((v0 &&& v1) ^^^ (v0 &&& v2)) ^^^ (v1 &&& v2))) (by rfl) rfl rfl rfl (wi_xor _ _) ?_
                  simp only [Act.put, List.setIfInBounds_toArray, List.set_cons_zero, List.set_cons_succ]
                  refine det_add _ _ _ _ _ _ _ (wi ((((rotr v0 2) ^^^ (rotr v0 13)) ^^^ (rotr v0 22)) + (((v0 &&& v1) ^^^ (v0 &&& v2)) ^^^ (v1 &&& v2)))) (by rfl) rfl rfl rfl (wi_add _ _) ?_
                  simp only [Act.put, List.setIfInBounds_toArray, List.set_cons_zero, List.set_cons_succ]
                  refine det_assign _ (.int .u32 (wi ((((rotr v0 2) ^^^ (rotr v0 13)) ^^^ (rotr v0 22)) + (((v0 &&& v1) ^^^ (v0 &&& v2)) ^^^ (v1 &&& v2))))) (by rfl) rfl rfl ?_
                  simp only [Act.put, List.setIfInBounds_toArray, List.set_cons_zero, List.set_cons_succ]
                  refine det_nil (fun wy hy => ?_)
                  have HVB := Lib.hid (ext_blk HVB.out hy)
                  have HWB := Lib.hid (ext_blk HWB.out hy)
                  have H1 := Lib.hid (ext_blk H1.out hy)
                  have H2 := Lib.hid (ext_blk H2.out hy)
                  have HE2 := Lib.hid (HE2.out.ext hy)
                  have HE := Lib.hid (HE.out.trans hy)
                  clear hy
                  generalize hu : (((rotr v0 2) ^^^ (rotr v0 13)) ^^^ (rotr v0 22)) + (((v0 &&& v1) ^^^ (v0 &&& v2)) ^^^ (v1 &&& v2)) = u at *
                  have HU := Lib.hid hu
                  clear hu
                  clear b0 b1 b2 b3 b4 b5 b6 b7
                  have b1 := HVC.out 1 (by omega) _ HVB.out _ HVE1.out
                  have b2 := HVC.out 2 (by omega) _ HVB.out _ HVE2.out
                  have b3 := HVC.out 3 (by omega) _ HVB.out _ HVE3.out
                  have b5 := HVC.out 5 (by omega) _ HVB.out _ HVE5.out
                  have b6 := HVC.out 6 (by omega) _ HVB.out _ HVE6.out
                  have q7 : (wi t + wi u) % 4294967296 = wi (t + u) := by rw [← wi_add, IntKind.wrap_u32]
                  have q8 : (wi v3 + wi t) % 4294967296 = wi (v3 + t) := by rw [← wi_add, IntKind.wrap_u32]
                  have HVN : Hid (vRun h W (k + 1) = [t + u, v0, v1, v2, v3 + t, v4, v5, v6]) := Lib.hid (by rw [HRN.out, ← HT.out, ← HU.out])
                  clear HRN
                  have HLn : Hid ((ints .u32 (ws [t + u, v0, v1, v2, v3 + t, v4, v5, v6])).length = (ints .u32 (ws vv)).length) := Lib.hid (by rw [ints_length, ws_length, ints_length, ws_length, HVL.out]; rfl)
                  have HIn : Hid ((Tryd.prog.info? 48).map (·.size) = some (ints .u32 (ws [t + u, v0, v1, v2, v3 + t, v4, v5, v6])).length) := Lib.hid Tryd.arr48
                  go_wp2_with (refine wpList_store_blk rfl _ _ _ rfl E (ints .u32 (ws [t + u, v0, v1, v2, v3 + t, v4, v5, v6])) rfl rfl _ _ HVB.out HLn.out HIn.out (ints_one _ _) ?_; intro wz hbz hgz)
                  go_roundw
                  case rel => exact ⟨k + 1, by omega, by go_num, by rw [HVN.out]; exact hbz, HWB.out.grown hgz (by have := HDE.out; simp; omega), H2.out.grown hgz (by have := HAE.out; simp; omega), H1.out.grown hgz (by have := HAE.out; simp; omega), HE2.out.grown hgz (by have := HBS.out; have := HS2.out; simp; omega), ext_grown HE.out hgz (by have := HAE.out; omega)⟩
                  case measure => simp [intOf]; omega
                · have hk64 : k = 64 := by omega
                  have hk65 : (k : Int) = 64 := by omega
                  rw [hk65]
                  clear hk65
                  subst hk64
                  generalize vRun h W 64 = vv at *
                  go_wp2_with fail
                  obtain ⟨wo2, rfl⟩ : ∃ wo : World, wo = wr := ⟨_, rfl⟩
                  go_loopw [18] (fun iv wr => ∃ (j : Nat), j ≤ 8 ∧ iv = .int .i64 (j : Int) ∧ Blk wr E (ints .u32 (ws vv)) 48 ∧ Blk wr (A + 1) (ints .u32 (ws (hAdd h vv j))) 48 ∧ Blk wr A (ints .u8 (List.replicate 32 0)) 26 ∧ MsgAt w2.heap.size b' off m wr ∧ Ext w wr) (fun iv _ => 8 - (intOf iv).toNat)
                  case atStart => exact ⟨0, by omega, rfl, HVB.out, H2.out, H1.out, HE2.out, HE.out⟩
                  case round =>
                    clear HVB H2 H1 HE2 HE
                    obtain ⟨j, hj, rfl, hbv, hb2, hb1, he2, hbel⟩ := hrel
                    have j0 : (0 : Int) ≤ (j : Int) := Int.natCast_nonneg _
                    by_cases hj8 : j < 8
                    · have j1 : (j : Int) < 8 := by omega
                      have e1 := blk_w hb2 (j := j) (by rw [hAdd_length, HH8.out]; exact hj8)
                      have e2 := blk_w hbv (j := j) (by rw [HVL.out]; exact hj8)
                      have f1 := hb2.free j
                      have HST : Hid (ws (hAdd h vv (j + 1)) = (ws (hAdd h vv j)).set j (wi ((hAdd h vv j).getD j 0#32 + vv.getD j 0#32))) := Lib.hid (by rw [ws_set, hAdd])
                      generalize (hAdd h vv j).getD j 0#32 = p1 at *
                      generalize vv.getD j 0#32 = p2 at *
                      have q1 : (wi p1 + wi p2) % 4294967296 = wi (p1 + p2) := by rw [← wi_add, IntKind.wrap_u32]
                      have HQ1 := Lib.hid q1
                      have HVB := Lib.hid hbv
                      have H1 := Lib.hid hb1
                      have H2 := Lib.hid hb2
                      have HE := Lib.hid hbel
                      have HE2 := Lib.hid he2
                      clear hbv hb1 hb2 hbel he2 q1
                      go_wp2_with fail
                      go_region
                      go_wp2_with fail
                      go_roundw
                      case rel =>
                        refine ⟨j + 1, by omega, by go_num, (HVB.out.far (by have := HAE.out; simp; omega) _).drewN 1, ?_, (H1.out.far (by simp <;> omega) _).drewN 1, (HE2.out.far (by have := HBA.out; simp; omega) _).drew, (Below.setCell HE.out (by simp <;> omega) _).drew⟩
                        rw [HST.out, ← HQ1.out]
                        exact (H2.out.seti j _).drewN 1
                      case measure => simp [intOf]; omega
                    · have hj9 : j = 8 := by omega
                      subst hj9
                      rw [← HHR.out] at hb2
                      have H1 := Lib.hid hb1
                      have H2 := Lib.hid hb2
                      have HE := Lib.hid hbel
                      have HE2 := Lib.hid he2
                      clear hbv hb1 hb2 hbel he2
                      go_wp2_with fail
                      go_roundw
                      case rel => exact ⟨n + 1, by omega, by rw [show 64 * (n : Int) + 64 = 64 * ((n + 1 : Nat) : Int) from by omega], H2.out, H1.out, HE2.out, HE.out⟩
                      case measure => simp [intOf]; omega
    · have hnN : n = N := by omega
      have hnN2 : (64 : Int) * (n : Int) = 64 * (N : Int) := by omega
      rw [hnN2]
      clear hnN2
      have HRR : Hid (outB (hRun m N) = sha256 b) := Lib.hid (by rw [HM.out, HN.out]; rfl)
      subst hnN
      have HR8 := Lib.hid (hRun_length m n)
      generalize hRun m n = R at *
      have HFZ := Lib.hid (Blk.made wr (ints .u8 (List.replicate 32 0)) 26)
      have H1L := Lib.hid hb1.lt
      have H2L := Lib.hid hb2.lt
      have K1 := Lib.hid (hb1.alloc (.cells (ints .u8 (List.replicate 32 0)).toArray 26))
      have K2 := Lib.hid (hb2.alloc (.cells (ints .u8 (List.replicate 32 0)).toArray 26))
      have HS := Lib.hid hbel.size
      have KE := Lib.hid (hbel.trans (Ext.alloc wr (.cells (ints .u8 (List.replicate 32 0)).toArray 26)))
      clear hb1 hb2 hbel he2
      go_upto_region 32 with (fail)
      change Code.wp _ _ _ _ (wr.alloc (.cells (ints .u8 (List.replicate 32 0)).toArray 26))
      generalize wr.alloc (.cells (ints .u8 (List.replicate 32 0)).toArray 26) = wf at *
      have HAF : Hid (A + 1 < wr.heap.size) := H2L
      generalize wr.heap.size = F at *
      obtain ⟨o, ho⟩ : ∃ o, o = outB R := ⟨_, rfl⟩
      have HOL : Hid (o.length = 32) := Lib.hid (by rw [ho, outB_length])
      have HOO := Lib.hid ho
      have HOS : Hid (o = sha256 b) := Lib.hid (by rw [ho]; exact HRR.out)
      clear ho HRR H1L H2L
      go_wp2_with fail
      go_loopw [20] (fun iv wr => ∃ (j : Nat), j ≤ 32 ∧ iv = .int .i64 (j : Int) ∧ Blk wr F ((fill 32 o j).map bval) 26 ∧ Blk wr (A + 1) (ints .u32 (ws R)) 48 ∧ Blk wr A (ints .u8 (List.replicate 32 0)) 26 ∧ Ext w wr) (fun iv _ => 32 - (intOf iv).toNat)
      case atStart => exact ⟨0, by omega, rfl, by rw [fill_start]; exact HFZ.out, K2.out, K1.out, KE.out⟩
      case round =>
        clear HFZ K2 K1 KE
        obtain ⟨j, hj, rfl, hbf, hb2, hb1, hbel⟩ := hrel
        have j0 : (0 : Int) ≤ (j : Int) := Int.natCast_nonneg _
        by_cases hj32 : j < 32
        · have j1 : (j : Int) < 32 := by omega
          obtain ⟨q, hq⟩ : ∃ q : Nat, q = j / 4 := ⟨_, rfl⟩
          obtain ⟨r, hr⟩ : ∃ r : Nat, r = j % 4 := ⟨_, rfl⟩
          obtain ⟨s, hs⟩ : ∃ s : Nat, s = 24 - 8 * r := ⟨_, rfl⟩
          have hq1 : (j : Int) / 4 = (q : Int) := by omega
          have hr1 : (j : Int) % 4 = (r : Int) := by omega
          have hs1 : 24 - 8 * (r : Int) = (s : Int) := by omega
          have hq8 : (q : Int) < 8 := by omega
          have q0 : (0 : Int) ≤ (q : Int) := Int.natCast_nonneg _
          have r0 : (0 : Int) ≤ (r : Int) := Int.natCast_nonneg _
          have r4 : (r : Int) < 4 := by omega
          have s0 : (0 : Int) ≤ (s : Int) := Int.natCast_nonneg _
          have s25 : (s : Int) ≤ 24 := by omega
          have e1 := blk_w hb2 (j := q) (by rw [HR8.out]; omega)
          have hof := outB_getD R j hj32
          rw [← hq, ← hr, ← hs, ← HOO.out] at hof
          generalize R.getD q 0#32 = x at *
          have hxr := wi_range x
          have e2 := hbf.cell j
          rw [bval_get (by rw [fill_length HOL.out (by omega)]; exact hj32)] at e2
          have f2 := hbf.free j
          have HFS : ∀ z : Int, z = ((o.getD j 0).toNat : Int) → _ := fun z hz => fill_set_val HOL.out hj32 hz
          have HFS := Lib.hid HFS
          have hza : bits .and .u32 (wi x / 2 ^ s) 255 % 256 = ((o.getD j 0).toNat : Int) := by
            rw [hof, UInt8.toNat_ofNat', wi_shr, sha_and_u32_255]
            rw [BitVec.toNat_ushiftRight, Nat.shiftRight_eq_div_pow]
            omega
          have HZA := Lib.hid hza
          have HF := Lib.hid hbf
          have H1 := Lib.hid hb1
          have H2 := Lib.hid hb2
          have HE := Lib.hid hbel
          clear hbf hb1 hb2 hbel hof hza hq hr hs
          generalize ((fill 32 o j).getD j 0) = z2 at *
          generalize wi x = zx at *
          go_wp2_with fail
          go_roundw
          case rel =>
            refine ⟨j + 1, by omega, by go_num, ?_, H2.out.far (by have := HAF.out; simp; omega) _, H1.out.far (by have := HAF.out; simp; omega) _, Below.setCell HE.out (by have := HAF.out; simp; omega) _⟩
            rw [← HFS.out _ HZA.out]
            exact HF.out.set j _
          case measure => simp [intOf]; omega
        · have hj9 : j = 32 := by omega
          subst hj9
          rw [fill_full HOL.out] at hbf
          have H1 := Lib.hid hb1
          have HF := Lib.hid hbf
          have HE := Lib.hid hbel
          clear hbf hb1 hb2 hbel
          have HIo : Hid ((Tryd.prog.info? 26).map (·.size) = some (o.map bval).length) := Lib.hid (num_size HOL.out)
          have HLo : Hid ((o.map bval).length = (ints .u8 (List.replicate 32 0)).length) := Lib.hid (by rw [List.length_map, HOL.out, ints_length, List.length_replicate])
          go_wp2_with (first | (refine wpList_load_blk rfl _ _ rfl F rfl _ _ _ _ HF.out Tryd.underlying26 HIo.out ?_) | (refine wpList_store_blk rfl _ _ _ rfl A (o.map bval) rfl rfl _ _ H1.out HLo.out HIo.out (bval_one _) ?_; intro w7 hb7 hg7))
          refine bodyPost_ret (result_blk rfl _ A _ _ _ _ rfl hb7 Tryd.underlying26 HIo.out) rfl ?_
          exact ⟨by rw [HOS.out], ext_grown HE.out hg7 (by omega)⟩
end Go.Proofs.YtcadfccijeodbaaDoor

/- Worlds in which nothing of before has changed but, it may be, one block. Nothing here speaks of a program. Each theorem names its own conditions. -/
namespace Go.Proofs.YtcadfccijeodbaaDoor
open Go.RowKit

def Far (c : Nat) (w w' : World) : Prop := ∃ wx, Ext w wx ∧ (w' = wx ∨ wx.grownBy w' (some c))
theorem fars_ext {c : Nat} {w w' : World} (h : Ext w w') : Far c w w' := ⟨w', h, Or.inl rfl⟩
theorem fars_put {c : Nat} {w wx w' : World} (h : Ext w wx) (g : wx.grownBy w' (some c)) : Far c w w' := ⟨wx, h, Or.inr g⟩
theorem fars_range {c a : Nat} {w w' : World} {cs : List Value} {t : TypeId} (H : Blk w a cs t) (ha : c ≠ a) (h : Far c w w') : w'.rangeAt a 0 cs := by
  obtain ⟨wx, h1, h2⟩ := h
  rcases h2 with h2 | h2
  · rw [h2]
    exact bl_range H h1
  · exact ((ext_blk H h1).grown h2 (by simp; omega)).range

end Go.Proofs.YtcadfccijeodbaaDoor

/- The walks of the document's own hash trees: half, Root, Path, up, Check, SameNums. Each theorem names its own conditions. -/
namespace Go.Proofs.YtcadfccijeodbaaDoor
open Go.RowKit
set_option linter.unusedVariables false
set_option linter.unusedSimpArgs false

set_option maxRecDepth 100000 in
set_option maxHeartbeats 4000000 in
theorem rhalf_any (n : Nat) (w : World) (h2 : 2 ≤ n) (hn : n ≤ 1152921504606846976) :
    Calls Tryd.prog 23 #[.int .i64 (n : Int)] w fun e w' => e = .returned (.int .i64 ((merK n : Nat) : Int)) ∧ w = w' := by
  have n0 : (0 : Int) ≤ (n : Int) := Int.natCast_nonneg _
  go_enter Tryd.func23, Tryd.ntmps23
  go_wp2_with fail
  go_loop [3] (fun iv => ∃ (j k : Nat), k = 2 ^ j ∧ k < n ∧ iv = .int .i64 (k : Int)) (fun iv => n - (intOf iv).toNat)
  case atStart => exact ⟨0, 1, rfl, by omega, rfl⟩
  case round =>
    obtain ⟨j, k, hj, hk, rfl⟩ := hrel
    have HJ := Lib.hid hj
    have k0 : (0 : Int) ≤ (k : Int) := Int.natCast_nonneg _
    have k1 : 2 * (k : Int) ≤ 2305843009213693952 := by omega
    have HP : Hid (0 < k) := Lib.hid (by rw [hj]; exact Nat.pow_pos (by omega))
    clear hj
    by_cases hlt : 2 * k < n
    · have hlt2 : 2 * (k : Int) < (n : Int) := by omega
      go_wp2_with fail
      go_round
      case rel => exact ⟨j + 1, 2 * k, by rw [HJ.out, Nat.pow_succ, Nat.mul_comm], hlt, by go_num⟩
      case measure =>
        have := HP.out
        simp [intOf]
        omega
    · have hlt2 : ¬ 2 * (k : Int) < (n : Int) := by omega
      have HK : Hid (merK n = k) := Lib.hid (by rw [HJ.out]; exact merK_of h2 (by have := HJ.out; omega) (by have := HJ.out; omega))
      go_wp2_with fail
      go_ret
      exact ⟨by rw [HK.out]; rfl, rfl⟩

section
variable {P : Program} {w : World}
theorem rowB_upto {t e : TypeId} (ht : P.underlying t = some (.slice e)) (hs : ∀ w, (sizeOf e).run P w = .ok 1 w) {v : Value} {ls : List (List UInt8)} (h : RowB w v ls) (k : Nat) (hk : k ≤ ls.length) :
    ∃ v', RowB w v' (ls.take k) ∧ ∀ w', (Instr.sliceAt t v none (some (.int .i64 (k : Int))) none).run P w' = .ok v' w' := by
  obtain ⟨vals, hr, hl, hx⟩ := h
  obtain ⟨v', h1, h2⟩ := row_upto ht hs hr k (by omega)
  refine ⟨v', ⟨vals.take k, h1, by rw [List.length_take, List.length_take, hl], fun i x l hx1 hl1 => ?_⟩, h2⟩
  rw [List.getElem?_take] at hx1 hl1
  split at hx1
  · rename_i hik
    rw [if_pos hik] at hl1
    exact hx i x l hx1 hl1
  · cases hx1
theorem rowB_cut {t e : TypeId} (ht : P.underlying t = some (.slice e)) (hs : ∀ w, (sizeOf e).run P w = .ok 1 w) {v : Value} {ls : List (List UInt8)} (h : RowB w v ls) (k : Nat) (hk : k ≤ ls.length) :
    ∃ v', RowB w v' (ls.drop k) ∧ ∀ w', (Instr.sliceAt t v (some (.int .i64 (k : Int))) none none).run P w' = .ok v' w' := by
  obtain ⟨vals, hr, hl, hx⟩ := h
  obtain ⟨v', h1, h2⟩ := row_cut ht hs hr k (by omega)
  refine ⟨v', ⟨vals.drop k, h1, by rw [List.length_drop, List.length_drop, hl], fun i x l hx1 hl1 => ?_⟩, h2⟩
  rw [List.getElem?_drop] at hx1 hl1
  exact hx _ x l hx1 hl1
theorem mer_form {v : Value} {ls : List (List UInt8)} (h : RowB w v ls) : ∃ a cap, v = .slice a ls.length cap ∧ ls.length ≤ cap ∧ cap ≤ maxLen := by
  obtain ⟨vals, ⟨a, cap, hv, h1, h2, _⟩, hl, _⟩ := h
  rw [hl] at hv h1
  exact ⟨a, cap, hv, h1, h2⟩
/-- An element's cell, and that it reads as its bytes. -/
theorem rowB_elem {a : Option Addr} {n cap : Nat} {ls : List (List UInt8)} (h : RowB w (.slice a n cap) ls) (hne : 0 < ls.length) : ∃ b off, a = some ⟨b, off, none⟩ ∧ ∀ i, i < ls.length → ∃ a2 c2, w.cell? ⟨b, off + i, none⟩ = some (.slice a2 (ls.getD i []).length c2) ∧ Row1 w (.slice a2 (ls.getD i []).length c2) ((ls.getD i []).map bval) := by
  obtain ⟨vals, ⟨a', cap', hv, h1, h2, h3, h4⟩, hl, hx⟩ := h
  injection hv with e1 e2 e3
  subst e1
  obtain ⟨b, off, ha, hb, hc⟩ := h4 (by rintro rfl; simp at hl; omega)
  refine ⟨b, off, ha, fun i hi => ?_⟩
  have hv1 : vals[i]? = some (vals[i]'(by omega)) := List.getElem?_eq_getElem (by omega)
  have hl1 : ls[i]? = some (ls.getD i []) := by rw [List.getD_eq_getElem?_getD, List.getElem?_eq_getElem hi]; rfl
  have hr := hx i _ _ hv1 hl1
  obtain ⟨a2, c2, hx2, _⟩ := id hr
  rw [List.length_map] at hx2
  rw [hx2] at hr hv1
  exact ⟨a2, c2, by rw [hc i (by omega), hv1], hr⟩
end

def RootSaid (n : Nat) : Prop := ∀ (ls : List (List UInt8)) (v : Value) (w : World), ls.length = n → (∀ l ∈ ls, l.length ≤ 1000000000) → ls.length ≤ 1152921504606846976 → RowB w v ls → GlobK w →
    Calls Tryd.prog 12 #[v] w fun e w' => e = .returned (.agg ((merR ls).map bval).toArray) ∧ Below w.heap.size w w'

set_option maxRecDepth 100000 in
set_option maxHeartbeats 8000000 in
theorem rRoot_step (n : Nat) (ih : ∀ k, k < n → RootSaid k) : RootSaid n := by
  intro ls v w hn hbd hbl hv hG
  have HBL := Lib.hid hbl
  obtain ⟨i0, hi, hz0, hz1, hz2⟩ := info_parts Tryd.info5
  have HI0 := Lib.hid hi
  have HZ0 := Lib.hid hz0
  have HZ1 := Lib.hid hz1
  have HZ2 := Lib.hid hz2
  have HIH := Lib.hid ih
  have HG := Lib.hid hG
  have HBD := Lib.hid hbd
  have HN := Lib.hid hn
  obtain ⟨a, cap, rfl, r1, r2⟩ := mer_form hv
  unfold maxLen at r2
  have HV0 := Lib.hid hv
  have HB0 := Lib.hid (Blk.made w (ints .u8 (List.replicate 32 0)) 26)
  have HE0 := Lib.hid (Ext.alloc w (.cells (ints .u8 (List.replicate 32 0)).toArray 26))
  have HRL : Hid ((merR ls).length = 32) := Lib.hid (merR_length ls)
  have HIR := Lib.hid (num_size HRL.out)
  have HLR : Hid (((merR ls).map bval).length = (ints .u8 (List.replicate 32 0)).length) := Lib.hid (by rw [List.length_map, HRL.out, ints_length, List.length_replicate])
  have l0 : (0 : Int) ≤ (ls.length : Int) := Int.natCast_nonneg _
  clear ih hG hbd hbl hn hv hi hz0 hz1 hz2
  go_enter Tryd.func12, Tryd.ntmps12
  go_upto_region 1 with (fail)
  change Code.wp _ _ _ _ (w.alloc (.cells (ints .u8 (List.replicate 32 0)).toArray 26))
  generalize w.alloc (.cells (ints .u8 (List.replicate 32 0)).toArray 26) = wa at *
  obtain ⟨A, hA⟩ : ∃ A, A = w.heap.size := ⟨_, rfl⟩
  have HLA : Hid (w.heap.size ≤ A) := Lib.hid (by omega)
  rw [← hA] at HB0 ⊢
  have HV := Lib.hid (HV0.out.below HE0.out)
  clear hA HV0
  by_cases h0 : ls.length = 0
  · have h0' : (ls.length : Int) = 0 := by omega
    have HQ : Hid (sha256 [] = merR ls) := Lib.hid (merR_nil h0).symm
    go_wp2_with fail
    refine (rSha_any (.slice none 0 0) [] wa (Row1.nil wa) (by decide) (HG.out.ext HE0.out)).mono ?_
    rintro e w1 ⟨rfl, hb⟩
    rw [HQ.out]
    have HB1 := Lib.hid (ext_blk HB0.out hb)
    have HE1 := Lib.hid (HE0.out.trans hb)
    clear hb
    go_wp2_with (refine wpList_store_blk rfl _ _ _ rfl A ((merR ls).map bval) rfl rfl _ _ HB1.out HLR.out HIR.out (bval_one _) ?_; intro w10 hb10 hg10)
    refine bodyPost_ret (result_blk rfl _ A _ _ _ _ rfl hb10 Tryd.underlying26 HIR.out) rfl ⟨rfl, ext_grown HE1.out hg10 HLA.out⟩
  · have h0' : ¬ (ls.length : Int) = 0 := by omega
    by_cases h1 : ls.length = 1
    · have h1' : (ls.length : Int) = 1 := by omega
      have h10 : (0 : Int) < (ls.length : Int) := by omega
      obtain ⟨b, off, rfl, hel⟩ := rowB_elem HV.out (by omega)
      obtain ⟨a2, c2, hc, hr⟩ := hel 0 (by omega)
      have HQ : Hid (sha256 (0 :: ls.getD 0 []) = merR ls) := Lib.hid (by
        rw [merR_one' h1]
        cases ls with
        | nil => simp at h1
        | cons x t => rfl)
      have HXL : Hid ((ls.getD 0 []).length ≤ 1000000000) := Lib.hid (HBD.out _ (by
        rw [List.getD_eq_getElem?_getD, List.getElem?_eq_getElem (by omega)]
        exact List.getElem_mem _))
      generalize ls.getD 0 [] = x at *
      rw [Nat.add_zero] at hc
      have HEA := Lib.hid (Ext.alloc wa (.cells #[.int .u8 0] 5))
      have hcell : (wa.alloc (.cells #[.int .u8 0] 5)).cell? ⟨b, off, none⟩ = some (.slice a2 x.length c2) := (HEA.out.cell (World.block_lt_of_cell? wa _ hc)).trans hc
      have HR := Lib.hid (hr.below HEA.out)
      have HO := Lib.hid (own_made wa #[.int .u8 0] wa.heap.size 5 1 (([0] : List UInt8).map bval) rfl rfl (by unfold maxLen; omega) (Nat.le_refl _))
      have HSZ := Lib.hid (HEA.out.size)
      clear hc hr hel
      go_wp2_with (at_builtin; refine wpList_append_row rfl _ _ 34 rfl wa.heap.size 5 i0 (.int .u8 0) 1 Tryd.underlying34 HI0.out HZ0.out HZ1.out HZ2.out rfl _ _ _ rfl HO.out rfl HR.out (bval_one _) (by have := HXL.out; rw [List.length_map]; unfold maxLen; omega) (by have := HXL.out; rw [List.length_map]; omega) HSZ.out ?_; intro v4 w4 hown4 hgrow4)
      have HX4 := Lib.hid (ext_own HEA.out HO.out (Nat.le_refl _) hgrow4)
      have HR4 : Hid (Row1 w4 v4 ((0 :: x).map bval)) := Lib.hid (by have h := Row1.of_own hown4; simpa using h)
      clear hown4 hgrow4 HO HR hcell
      refine (rSha_any v4 (0 :: x) w4 HR4.out (by have := HXL.out; rw [List.length_cons]; omega) (HG.out.ext (HE0.out.trans HX4.out))).mono ?_
      rintro e w1 ⟨rfl, hb⟩
      rw [HQ.out]
      have HB1 := Lib.hid (ext_blk HB0.out (HX4.out.trans hb))
      have HE1 := Lib.hid (HE0.out.trans (HX4.out.trans hb))
      clear hb
      go_wp2_with (refine wpList_store_blk rfl _ _ _ rfl A ((merR ls).map bval) rfl rfl _ _ HB1.out HLR.out HIR.out (bval_one _) ?_; intro w10 hb10 hg10)
      refine bodyPost_ret (result_blk rfl _ A _ _ _ _ rfl hb10 Tryd.underlying26 HIR.out) rfl ⟨rfl, ext_grown HE1.out hg10 HLA.out⟩
    · have h1' : ¬ (ls.length : Int) = 1 := by omega
      have h2 : 2 ≤ ls.length := by omega
      have HK1 := Lib.hid (merK_lt h2)
      have HK0 := Lib.hid (merK_pos ls.length)
      have HM := Lib.hid (merR_two h2)
      have HH := Lib.hid (fun w' => rhalf_any ls.length w' h2 HBL.out)
      obtain ⟨k, hk⟩ : ∃ k, k = merK ls.length := ⟨_, rfl⟩
      rw [← hk] at HK1 HK0 HM HH
      clear hk
      have k0 : (0 : Int) ≤ (k : Int) := Int.natCast_nonneg _
      have k1 : (k : Int) ≤ (ls.length : Int) := by have := HK1.out; omega
      have k2 : (k : Int) ≤ (cap : Int) := by have := HK1.out; omega
      obtain ⟨v1, hv1, hs1⟩ := rowB_upto Tryd.underlying22 Tryd.sizeOf34 HV.out k (by have := HK1.out; omega)
      obtain ⟨v2, hv2, hs2⟩ := rowB_cut Tryd.underlying22 Tryd.sizeOf34 HV.out k (by have := HK1.out; omega)
      obtain ⟨a1, c1, rfl, _⟩ := mer_form hv1
      obtain ⟨a2, c2, rfl, _⟩ := mer_form hv2
      have HV1 := Lib.hid hv1
      have HV2 := Lib.hid hv2
      have HC1 : Hid (∀ wx, Ext wa wx → Calls Tryd.prog 12 #[.slice a1 (ls.take k).length c1] wx fun e w' => e = .returned (.agg ((merR (ls.take k)).map bval).toArray) ∧ Below wx.heap.size wx w') := Lib.hid (fun wx hx => by
        have hlen : (ls.take k).length = k := by rw [List.length_take]; have := HK1.out; omega
        exact HIH.out k (by have := HK1.out; have := HN.out; omega) (ls.take k) _ wx hlen (fun l hl => HBD.out l (List.mem_of_mem_take hl)) (by rw [hlen]; have := HK1.out; have := HBL.out; omega) (HV1.out.below hx) (HG.out.ext (HE0.out.trans hx)))
      have HC2 : Hid (∀ wx, Ext wa wx → Calls Tryd.prog 12 #[.slice a2 (ls.drop k).length c2] wx fun e w' => e = .returned (.agg ((merR (ls.drop k)).map bval).toArray) ∧ Below wx.heap.size wx w') := Lib.hid (fun wx hx => by
        have hlen : (ls.drop k).length = ls.length - k := by rw [List.length_drop]
        exact HIH.out (ls.length - k) (by have := HK0.out; have := HK1.out; have := HN.out; omega) (ls.drop k) _ wx hlen (fun l hl => HBD.out l (List.mem_of_mem_drop hl)) (by rw [hlen]; have := HBL.out; omega) (HV2.out.below hx) (HG.out.ext (HE0.out.trans hx)))
      have HaL : Hid ((merR (ls.take k)).length = 32) := Lib.hid (merR_length _)
      have HbL : Hid ((merR (ls.drop k)).length = 32) := Lib.hid (merR_length _)
      generalize merR (ls.take k) = ra at *
      generalize merR (ls.drop k) = rb at *
      generalize (ls.take k).length = n1 at *
      generalize (ls.drop k).length = n2 at *
      have HRQ : Hid (merR ls = sha256 (1 :: (ra ++ rb))) := Lib.hid HM.out
      have HIa := Lib.hid (num_size HaL.out)
      have HIb := Lib.hid (num_size HbL.out)
      have HLa : Hid ((ra.map bval).length = (ints .u8 (List.replicate 32 0)).length) := Lib.hid (by rw [List.length_map, HaL.out, ints_length, List.length_replicate])
      have HLb : Hid ((rb.map bval).length = (ints .u8 (List.replicate 32 0)).length) := Lib.hid (by rw [List.length_map, HbL.out, ints_length, List.length_replicate])
      clear hv1 hv2 HM HRL HIR HLR
      have HE : Hid (Ext w wa) := HE0
      go_wp2_with fail
      refine (HH.out wa).mono ?_
      rintro e w' ⟨rfl, rfl⟩
      go_wp2_with fail
      refine (HC1.out wa (Ext.refl _)).mono ?_
      rintro e w1 ⟨rfl, hb⟩
      have HW : Hid (Ext wa w1) := Lib.hid hb
      have HB0 := Lib.hid (ext_blk HB0.out hb)
      have HE := Lib.hid (HE.out.trans hb)
      have HZ := Lib.hid (Blk.made w1 (ints .u8 (List.replicate 32 0)) 26)
      have HEA := Lib.hid (Ext.alloc w1 (.cells (ints .u8 (List.replicate 32 0)).toArray 26))
      clear hb
      go_upto_region 8 with (refine wpList_store_blk rfl _ _ _ rfl w1.heap.size (ra.map bval) rfl rfl _ _ HZ.out HLa.out HIa.out (bval_one _) ?_; intro w2 hb2 hg2)
      have HX := Lib.hid (ext_grown HEA.out hg2 (Nat.le_refl _))
      have HB0 := Lib.hid (ext_blk HB0.out HX.out)
      have HE := Lib.hid (HE.out.trans HX.out)
      have HW := Lib.hid (HW.out.trans HX.out)
      have H4 := Lib.hid hb2
      generalize w1.heap.size = B4 at *
      clear hb2 hg2 HZ HEA HX HH HC1
      go_wp2_with fail
      refine (HC2.out w2 HW.out).mono ?_
      rintro e w3 ⟨rfl, hb⟩
      have HB0 := Lib.hid (ext_blk HB0.out hb)
      have H4 := Lib.hid (ext_blk H4.out hb)
      have HE := Lib.hid (HE.out.trans hb)
      have HZ := Lib.hid (Blk.made w3 (ints .u8 (List.replicate 32 0)) 26)
      have HEA := Lib.hid (Ext.alloc w3 (.cells (ints .u8 (List.replicate 32 0)).toArray 26))
      clear hb HW
      go_upto_region 9 with (refine wpList_store_blk rfl _ _ _ rfl w3.heap.size (rb.map bval) rfl rfl _ _ HZ.out HLb.out HIb.out (bval_one _) ?_; intro w4 hb4 hg4)
      have HX := Lib.hid (ext_grown HEA.out hg4 (Nat.le_refl _))
      have HB0 := Lib.hid (ext_blk HB0.out HX.out)
      have H4 := Lib.hid (ext_blk H4.out HX.out)
      have HE := Lib.hid (HE.out.trans HX.out)
      have H5 := Lib.hid hb4
      generalize w3.heap.size = B5 at *
      clear hb4 hg4 HZ HEA HX HC2 HV1 HV2 hs1 hs2 HE0 HIH
      have B0 : Ext w4 w4.drew := Ext.drew _
      refine wp_region_held_drew (S := fun w' => Far (A) w4 w') (by kernel_rfl) (fars_ext B0) (fun hHeld => ?_)
      refine wpAnyH_take (i := 1) (v := .slice (some ⟨B4, 0, none⟩) 32 32) rfl (by kernel_rfl) (by kernel_rfl) (by kernel_rfl) (fun _ _ _ h => h) (yi_slice _ _ _ _ (.pointer (some ⟨B4, 0, none⟩)) (.slice (some ⟨B4, 0, none⟩) 32 32) none none (by rfl) rfl rfl rfl rfl (fun w => cut_whole Tryd.underlying26 Tryd.sizeOf5 (by omega) _ w)) hHeld ?_
      simp only [Act.put, List.getElem_toArray, List.getElem_cons_zero, List.getElem_cons_succ, List.setIfInBounds_toArray, List.set_cons_zero, List.set_cons_succ]
      refine wpAnyH_take (i := 3) (v := .slice (some ⟨B5, 0, none⟩) 32 32) rfl (by kernel_rfl) (by kernel_rfl) (by kernel_rfl) (fun _ _ _ h => h) (yi_slice _ _ _ _ (.pointer (some ⟨B5, 0, none⟩)) (.slice (some ⟨B5, 0, none⟩) 32 32) none none (by rfl) rfl rfl rfl rfl (fun w => cut_whole Tryd.underlying26 Tryd.sizeOf5 (by omega) _ w)) hHeld ?_
      simp only [Act.put, List.getElem_toArray, List.getElem_cons_zero, List.getElem_cons_succ, List.setIfInBounds_toArray, List.set_cons_zero, List.set_cons_succ]
      refine wpAnyH_ready (rs := [0]) (by kernel_rfl) (by simp) (AllReadyH.cons rfl (fun K hK => ?_) AllReadyH.nil)
      refine step_wp (by rfl) ?_
      refine wp_buildSlice_d (some 30) _ _ _ _ rfl rfl #[.int .u8 1] i0 (.int .u8 0) Tryd.underlying34 HI0.out HZ0.out (by rw [HZ1.out]; decide) (by rw [HZ1.out]; decide) (by rw [HZ1.out]; kernel_rfl) ?_
      obtain ⟨m1, hm1⟩ : ∃ wNew, wNew = World.alloc w4.drew (.cells #[.int .u8 1] 5) := ⟨_, rfl⟩
      rw [← hm1]
      have b1 : Ext w4.drew m1 := by rw [hm1]; exact Ext.alloc _ _
      obtain ⟨g1, hg1⟩ : ∃ gNew, gNew = (w4.drew).heap.size := ⟨_, rfl⟩
      rw [← hg1]
      have r1 : Row1 m1 (.slice (some ⟨g1, 0, none⟩) 1 1) (([1] : List UInt8).map bval) := by rw [hm1, hg1]; exact Row1.made _ _ _ _ _ _ rfl rfl rfl (by unfold maxLen; omega)
      have o1 : World.ownsRow m1 (w4).heap.size 5 1 (.slice (some ⟨g1, 0, none⟩) 1 1) 1 (([1] : List UInt8).map bval) := by rw [hm1, hg1]; exact own_made _ _ _ _ _ _ rfl rfl (by unfold maxLen; omega) B0.size
      clear hm1 hg1
      have N1 : Ext w4 m1 := B0.trans b1
      refine hK.out _ _ (fars_ext N1) (fun hHeld => ?_)
      clear hK K
      try simp only [Act.put, List.getElem_toArray, List.getElem_cons_zero, List.getElem_cons_succ, List.setIfInBounds_toArray, List.set_cons_zero, List.set_cons_succ]
      refine wpAnyH_ready (rs := [2]) (by kernel_rfl) (by simp) (AllReadyH.cons rfl (fun K hK => ?_) AllReadyH.nil)
      refine step_wp (by rfl) ?_
      refine wp_append_row _ _ 34 rfl (w4).heap.size 5 i0 (.int .u8 0) 1 Tryd.underlying34 HI0.out HZ0.out HZ1.out HZ2.out rfl (.slice (some ⟨g1, 0, none⟩) 1 1) 1 _ rfl o1 rfl ((blk_row (n := 32) H4.out (by rw [List.length_map]; exact HaL.out) (by unfold maxLen; omega)).below N1) (bval_one _) (by simp only [List.length_map, List.length_cons, List.length_nil, HaL.out, HbL.out]; unfold maxLen; omega) (by simp only [List.length_map, List.length_cons, List.length_nil, HaL.out, HbL.out]; omega) N1.size ?_
      intro v2 m2 ho2 hg2
      have N2 : Ext w4 m2 := ext_own N1 o1 (Nat.le_refl _) hg2
      have r2 : Row1 m2 v2 ((([1] ++ ra)).map bval) := by have h := Row1.of_own ho2; simpa using h
      have o2 : World.ownsRow m2 (w4).heap.size 5 1 v2 ((1 :: ra).length) ((1 :: ra).map bval) := own_eq ho2 (by rw [List.length_map, List.length_cons]; omega) (by rfl)
      have r2 : Row1 m2 v2 ((1 :: ra).map bval) := Row1.of_own o2
      refine hK.out _ _ (fars_ext N2) (fun hHeld => ?_)
      clear hK K
      try simp only [Act.put, List.getElem_toArray, List.getElem_cons_zero, List.getElem_cons_succ, List.setIfInBounds_toArray, List.set_cons_zero, List.set_cons_succ]
      refine wpAnyH_ready (rs := [4]) (by kernel_rfl) (by simp) (AllReadyH.cons rfl (fun K hK => ?_) AllReadyH.nil)
      refine step_wp (by rfl) ?_
      refine wp_append_row _ _ 34 rfl (w4).heap.size 5 i0 (.int .u8 0) 1 Tryd.underlying34 HI0.out HZ0.out HZ1.out HZ2.out rfl (v2) (1 :: ra).length _ rfl o2 rfl ((blk_row (n := 32) H5.out (by rw [List.length_map]; exact HbL.out) (by unfold maxLen; omega)).below N2) (bval_one _) (by simp only [List.length_map, List.length_cons, List.length_nil, HaL.out, HbL.out]; unfold maxLen; omega) (by simp only [List.length_map, List.length_cons, List.length_nil, HaL.out, HbL.out]; omega) N2.size ?_
      intro v3 m3 ho3 hg3
      have N3 : Ext w4 m3 := ext_own N2 o2 (Nat.le_refl _) hg3
      have r3 : Row1 m3 v3 (((1 :: ra ++ rb)).map bval) := by have h := Row1.of_own ho3; simpa using h
      have o3 : World.ownsRow m3 (w4).heap.size 5 1 v3 ((1 :: (ra ++ rb)).length) ((1 :: (ra ++ rb)).map bval) := own_eq ho3 (by rw [List.length_map, List.length_cons, List.length_cons, List.length_append]; omega) (by simp)
      have r3 : Row1 m3 v3 ((1 :: (ra ++ rb)).map bval) := Row1.of_own o3
      refine hK.out _ _ (fars_ext N3) (fun hHeld => ?_)
      clear hK K
      try simp only [Act.put, List.getElem_toArray, List.getElem_cons_zero, List.getElem_cons_succ, List.setIfInBounds_toArray, List.set_cons_zero, List.set_cons_succ]
      refine wpAnyH_ready (rs := [5]) (by kernel_rfl) (by simp) (AllReadyH.cons rfl (fun K hK => ?_) AllReadyH.nil)
      go_simp
      refine (rSha_any _ (1 :: (ra ++ rb)) m3 r3 (by rw [List.length_cons, List.length_append]; have := HaL.out; have := HbL.out; omega) (HG.out.ext (HE.out.trans N3))).mono ?_
      rintro e m4 ⟨rfl, b4⟩
      have r3 := r3.below b4
      have o3 := own_below o3 b4
      have N4 : Ext w4 m4 := N3.trans b4
      refine hK.out _ _ (fars_ext N4) (fun hHeld => ?_)
      clear hK K
      try simp only [Act.put, List.getElem_toArray, List.getElem_cons_zero, List.getElem_cons_succ, List.setIfInBounds_toArray, List.set_cons_zero, List.set_cons_succ]
      refine wpAnyH_ready (rs := [6]) (by kernel_rfl) (by simp) (AllReadyH.cons rfl (fun K hK => ?_) AllReadyH.nil)
      refine step_wp (by rfl) ?_
      refine wp_store_blk _ _ _ rfl (A) ((sha256 (1 :: (ra ++ rb))).map bval) rfl rfl _ _ (ext_blk HB0.out N4) (by rw [List.length_map, sha256_length, ints_length]; rfl) (num_size ((sha256_length _))) (bval_one _) ?_
      intro m5 hb5 hg5
      refine hK.out _ _ (fars_put N4 hg5) (fun hHeld => ?_)
      clear hK K
      try simp only [Act.put, List.getElem_toArray, List.getElem_cons_zero, List.getElem_cons_succ, List.setIfInBounds_toArray, List.set_cons_zero, List.set_cons_succ]
      refine wpAnyH_done (by kernel_rfl) ?_ _
      have hfin := hb5
      have hNN := ext_grown (HE.out.trans N4) hg5 HLA.out
      generalize m5 = w11 at hfin hNN ⊢
      have HIo : Hid ((Tryd.prog.info? 26).map (·.size) = some ((sha256 (1 :: (ra ++ rb))).map bval).length) := Lib.hid (num_size (sha256_length _))
      go_wp2_with fail
      refine bodyPost_ret (result_blk rfl _ A _ _ _ _ rfl hfin Tryd.underlying26 HIo.out) rfl ⟨by rw [HRQ.out], hNN⟩

theorem rRoot_any (ls : List (List UInt8)) (v : Value) (w : World) (hb : ∀ l ∈ ls, l.length ≤ 1000000000) (hl : ls.length ≤ 1152921504606846976) (hv : RowB w v ls) (hG : GlobK w) :
    Calls Tryd.prog 12 #[v] w fun e w' => e = .returned (.agg ((merR ls).map bval).toArray) ∧ Below w.heap.size w w' :=
  Nat.strongRecOn (motive := RootSaid) ls.length rRoot_step ls v w rfl hb hl hv hG

theorem own_eqS {w : World} {base size : Nat} {e : TypeId} {n m : Nat} {x : Value} {xs ys : List Value} (h : w.ownsRow base e size x n xs) (hn : n = m) (hx : xs = ys) : w.ownsRow base e size x m ys := by
  subst hn; subst hx
  exact h
def PathSaid (n : Nat) : Prop := ∀ (ls : List (List UInt8)) (v : Value) (i : Nat) (w : World), ls.length = n → (∀ l ∈ ls, l.length ≤ 1000000000) → ls.length ≤ 1152921504606846976 → i < ls.length → RowB w v ls → GlobK w →
    Calls Tryd.prog 15 #[v, .int .i64 (i : Int)] w fun e w' => ∃ x, e = .returned x ∧ w'.ownsRow w.heap.size 26 32 x (merP ls i).length ((merP ls i).flatten.map bval) ∧ Below w.heap.size w w'

set_option maxRecDepth 100000 in
set_option maxHeartbeats 8000000 in
theorem rPath_step (n : Nat) (ih : ∀ k, k < n → PathSaid k) : PathSaid n := by
  intro ls v i w hn hbd hbl hil hv hG
  obtain ⟨iq, hq0, hq1, hq2, hq3⟩ := info_numz (P := Tryd.prog) (t := 26) (z := .agg (zer.map bval).toArray) (n := 32) (b := 32) (by kernel_rfl)
  have HQ0 := Lib.hid hq0
  have HQ1 := Lib.hid hq1
  have HQ2 := Lib.hid hq2
  have HQ3 := Lib.hid hq3
  have HIH := Lib.hid ih
  have HG := Lib.hid hG
  have HBD := Lib.hid hbd
  have HBL := Lib.hid hbl
  have HIL := Lib.hid hil
  have HN := Lib.hid hn
  obtain ⟨a, cap, rfl, r1, r2⟩ := mer_form hv
  unfold maxLen at r2
  have HV := Lib.hid hv
  have l0 : (0 : Int) ≤ (ls.length : Int) := Int.natCast_nonneg _
  have i0 : (0 : Int) ≤ (i : Int) := Int.natCast_nonneg _
  clear ih hG hbd hbl hil hn hv hq0 hq1 hq2 hq3
  by_cases h2 : ls.length < 2
  · have h2' : (ls.length : Int) < 2 := by omega
    have HP0 := Lib.hid (merP_few i h2)
    go_enter Tryd.func15, Tryd.ntmps15
    go_wp2_with fail
    go_ret
    exact ⟨_, rfl, by rw [HP0.out]; exact World.ownsRow_nil _ _ _ _, Below.refl _ _⟩
  · have h2' : ¬ (ls.length : Int) < 2 := by omega
    have h2 : 2 ≤ ls.length := by omega
    have HK1 := Lib.hid (merK_lt h2)
    have HK0 := Lib.hid (merK_pos ls.length)
    have HH := Lib.hid (fun w' => rhalf_any ls.length w' h2 HBL.out)
    obtain ⟨k, hk⟩ : ∃ k, k = merK ls.length := ⟨_, rfl⟩
    rw [← hk] at HK1 HK0 HH
    have HKE := Lib.hid hk
    clear hk
    have k0 : (0 : Int) ≤ (k : Int) := Int.natCast_nonneg _
    have k1 : (k : Int) ≤ (ls.length : Int) := by have := HK1.out; omega
    have k2 : (k : Int) ≤ (cap : Int) := by have := HK1.out; omega
    obtain ⟨v1, hv1, hs1⟩ := rowB_upto Tryd.underlying22 Tryd.sizeOf34 HV.out k (by have := HK1.out; omega)
    obtain ⟨v2, hv2, hs2⟩ := rowB_cut Tryd.underlying22 Tryd.sizeOf34 HV.out k (by have := HK1.out; omega)
    obtain ⟨a1, c1, rfl, _⟩ := mer_form hv1
    obtain ⟨a2, c2, rfl, _⟩ := mer_form hv2
    have HV1 := Lib.hid hv1
    have HV2 := Lib.hid hv2
    have HS1 := Lib.hid hs1
    have HS2 := Lib.hid hs2
    clear hv1 hv2 hs1 hs2
    go_enter Tryd.func15, Tryd.ntmps15
    go_wp2_with fail
    refine (HH.out w).mono ?_
    rintro e w' ⟨rfl, rfl⟩
    by_cases hik : i < k
    · have hik' : (i : Int) < (k : Int) := by omega
      have HPE : Hid (merP ls i = merP (ls.take k) i ++ [merR (ls.drop k)]) := Lib.hid (by rw [HKE.out]; exact merP_low h2 (by rw [← HKE.out]; exact hik))
      have HP : Hid (∀ wx, Ext w wx → Calls Tryd.prog 15 #[.slice a1 (ls.take k).length c1, .int .i64 ((i : Nat) : Int)] wx fun e w' => ∃ x, e = .returned x ∧ w'.ownsRow wx.heap.size 26 32 x (merP (ls.take k) i).length ((merP (ls.take k) i).flatten.map bval) ∧ Below wx.heap.size wx w') := Lib.hid (fun wx hx => by
        have hlen : (ls.take k).length = k := by rw [List.length_take]; have := HK1.out; omega
        exact HIH.out (ls.take k).length (by rw [hlen]; have := HK0.out; have := HK1.out; have := HN.out; omega) (ls.take k) _ i wx rfl (fun l hl => HBD.out l (List.mem_of_mem_take hl)) (by rw [hlen]; have := HK1.out; have := HBL.out; omega) (by rw [hlen]; have := HIL.out; omega) (HV1.out.below hx) (HG.out.ext hx))
      have HR : Hid (∀ wx, Ext w wx → Calls Tryd.prog 12 #[.slice a2 (ls.drop k).length c2] wx fun e w' => e = .returned (.agg ((merR (ls.drop k)).map bval).toArray) ∧ Below wx.heap.size wx w') := Lib.hid (fun wx hx => rRoot_any (ls.drop k) _ wx (fun l hl => HBD.out l (List.mem_of_mem_drop hl)) (by have := HBL.out; rw [List.length_drop]; omega) (HV2.out.below hx) (HG.out.ext hx))
      have HPM : Hid ((merP (ls.take k) i).length ≤ 60) := Lib.hid (merP_most 60 _ _ (by rw [List.length_take]; have := HBL.out; omega))
      have HbL : Hid ((merR (ls.drop k)).length = 32) := Lib.hid (merR_length _)
      generalize merP (ls.take k) i = pl at *
      generalize merR (ls.drop k) = rb at *
      generalize (ls.take k).length = n1 at *
      generalize (ls.drop k).length = n2 at *
      clear HIH HKE HV1 HV2 hik
      go_upto_region 5 with (fail)
      have B0 : Ext w w.drew := Ext.drew _
      refine wp_region_held_drew (S := fun w' => Ext w w') (by kernel_rfl) B0 (fun hHeld => ?_)
      refine wpAnyH_take (i := 0) (v := .slice a ls.length cap) rfl (by kernel_rfl) (by kernel_rfl) (by kernel_rfl) (fun _ _ _ h => h) (yi_move _ (.slice a ls.length cap) (by rfl) rfl rfl) hHeld ?_
      simp only [Act.put, List.getElem_toArray, List.getElem_cons_zero, List.getElem_cons_succ, List.setIfInBounds_toArray, List.set_cons_zero, List.set_cons_succ]
      refine wpAnyH_take (i := 1) (v := .int .i64 (k : Int)) rfl (by kernel_rfl) (by kernel_rfl) (by kernel_rfl) (fun _ _ _ h => h) (yi_move _ (.int .i64 (k : Int)) (by rfl) rfl rfl) hHeld ?_
      simp only [Act.put, List.getElem_toArray, List.getElem_cons_zero, List.getElem_cons_succ, List.setIfInBounds_toArray, List.set_cons_zero, List.set_cons_succ]
      refine wpAnyH_take (i := 2) (v := .slice a1 n1 c1) rfl (by kernel_rfl) (by kernel_rfl) (by kernel_rfl) (fun _ _ _ h => h) (yi_slice _ _ _ _ (.slice a ls.length cap) (.slice a1 n1 c1) none (some (.int .i64 (k : Int))) (by rfl) rfl rfl rfl rfl HS1.out) hHeld ?_
      simp only [Act.put, List.getElem_toArray, List.getElem_cons_zero, List.getElem_cons_succ, List.setIfInBounds_toArray, List.set_cons_zero, List.set_cons_succ]
      refine wpAnyH_take (i := 3) (v := .int .i64 (i : Int)) rfl (by kernel_rfl) (by kernel_rfl) (by kernel_rfl) (fun _ _ _ h => h) (yi_move _ (.int .i64 (i : Int)) (by rfl) rfl rfl) hHeld ?_
      simp only [Act.put, List.getElem_toArray, List.getElem_cons_zero, List.getElem_cons_succ, List.setIfInBounds_toArray, List.set_cons_zero, List.set_cons_succ]
      refine wpAnyH_take (i := 5) (v := .slice a ls.length cap) rfl (by kernel_rfl) (by kernel_rfl) (by kernel_rfl) (fun _ _ _ h => h) (yi_move _ (.slice a ls.length cap) (by rfl) rfl rfl) hHeld ?_
      simp only [Act.put, List.getElem_toArray, List.getElem_cons_zero, List.getElem_cons_succ, List.setIfInBounds_toArray, List.set_cons_zero, List.set_cons_succ]
      refine wpAnyH_take (i := 6) (v := .int .i64 (k : Int)) rfl (by kernel_rfl) (by kernel_rfl) (by kernel_rfl) (fun _ _ _ h => h) (yi_move _ (.int .i64 (k : Int)) (by rfl) rfl rfl) hHeld ?_
      simp only [Act.put, List.getElem_toArray, List.getElem_cons_zero, List.getElem_cons_succ, List.setIfInBounds_toArray, List.set_cons_zero, List.set_cons_succ]
      refine wpAnyH_take (i := 7) (v := .slice a2 n2 c2) rfl (by kernel_rfl) (by kernel_rfl) (by kernel_rfl) (fun _ _ _ h => h) (yi_slice _ _ _ _ (.slice a ls.length cap) (.slice a2 n2 c2) (some (.int .i64 (k : Int))) none (by rfl) rfl rfl rfl rfl HS2.out) hHeld ?_
      simp only [Act.put, List.getElem_toArray, List.getElem_cons_zero, List.getElem_cons_succ, List.setIfInBounds_toArray, List.set_cons_zero, List.set_cons_succ]
      refine wpAnyH_ready (rs := [4]) (by kernel_rfl) (by simp) (AllReadyH.cons rfl (fun K hK => ?_) AllReadyH.nil)
      go_simp
      refine (HP.out w.drew B0).mono ?_
      rintro e m1 ⟨x1, rfl, o1, b1⟩
      have o1 := own_mono o1 B0.size
      have N1 : Ext w m1 := B0.trans b1
      refine hK.out _ _ N1 (fun hHeld => ?_)
      clear hK K
      try simp only [Act.put, List.getElem_toArray, List.getElem_cons_zero, List.getElem_cons_succ, List.setIfInBounds_toArray, List.set_cons_zero, List.set_cons_succ]
      refine wpAnyH_ready (rs := [8]) (by kernel_rfl) (by simp) (AllReadyH.cons rfl (fun K hK => ?_) AllReadyH.nil)
      go_simp
      refine (HR.out m1 N1).mono ?_
      rintro e m2 ⟨rfl, b2⟩
      have o1 := own_below o1 b2
      have N2 : Ext w m2 := N1.trans b2
      refine hK.out _ _ N2 (fun hHeld => ?_)
      clear hK K
      try simp only [Act.put, List.getElem_toArray, List.getElem_cons_zero, List.getElem_cons_succ, List.setIfInBounds_toArray, List.set_cons_zero, List.set_cons_succ]
      refine wpAnyH_ready (rs := [9]) (by kernel_rfl) (by simp) (AllReadyH.cons rfl (fun K hK => ?_) AllReadyH.nil)
      refine step_wp (by rfl) ?_
      refine wp_build_num (some 24) _ _ _ rb rfl rfl Tryd.underlying28 HQ0.out HQ1.out HQ2.out (by rfl) rfl HbL.out ?_
      obtain ⟨m3, hm3⟩ : ∃ wNew, wNew = World.alloc m2 (.cells (rb.map bval).toArray 26) := ⟨_, rfl⟩
      rw [← hm3]
      have b3 : Ext m2 m3 := by rw [hm3]; exact Ext.alloc _ _
      obtain ⟨g3, hg3⟩ : ∃ gNew, gNew = (m2).heap.size := ⟨_, rfl⟩
      rw [← hg3]
      have o1 := own_below o1 b3
      have z3 : Blk m3 g3 (rb.map bval) 26 := by rw [hm3, hg3]; exact Blk.made _ _ _
      clear hm3 hg3
      have N3 : Ext w m3 := N2.trans b3
      refine hK.out _ _ N3 (fun hHeld => ?_)
      clear hK K
      try simp only [Act.put, List.getElem_toArray, List.getElem_cons_zero, List.getElem_cons_succ, List.setIfInBounds_toArray, List.set_cons_zero, List.set_cons_succ]
      refine wpAnyH_ready (rs := [10]) (by kernel_rfl) (by simp) (AllReadyH.cons rfl (fun K hK => ?_) AllReadyH.nil)
      refine step_wp (by rfl) ?_
      refine wp_append_num (some 25) _ _ _ rfl rfl (w).heap.size _ Tryd.underlying28 HQ0.out HQ1.out HQ2.out HQ3.out (by rfl) _ _ _ rfl o1 g3 1 rb rfl z3.range HbL.out (by have := HPM.out; omega) N3.size ?_
      intro v4 m4 ho4 hg4
      have N4 : Ext w m4 := ext_ownS N3 o1 (Nat.le_refl _) hg4
      refine hK.out _ _ N4 (fun hHeld => ?_)
      clear hK K
      try simp only [Act.put, List.getElem_toArray, List.getElem_cons_zero, List.getElem_cons_succ, List.setIfInBounds_toArray, List.set_cons_zero, List.set_cons_succ]
      refine wpAnyH_ready (rs := [11]) (by kernel_rfl) (by simp) (AllReadyH.cons rfl (fun K hK => ?_) AllReadyH.nil)
      go_simp
      refine hK.out _ _ N4 (fun hHeld => ?_)
      clear hK K
      try simp only [Act.put, List.getElem_toArray, List.getElem_cons_zero, List.getElem_cons_succ, List.setIfInBounds_toArray, List.set_cons_zero, List.set_cons_succ]
      refine wpAnyH_done (by kernel_rfl) ?_ _
      have HO := Lib.hid ho4
      have HN9 : Hid (Ext w m4) := Lib.hid N4
      generalize m4 = w9 at HO HN9 ⊢
      go_wp2_with fail
      go_ret
      exact ⟨_, rfl, own_eqS HO.out (by rw [HPE.out, List.length_append, List.length_singleton]) (by rw [HPE.out, flat_snoc, List.map_append]), HN9.out⟩
    · have hik' : ¬ (i : Int) < (k : Int) := by omega
      have HPE : Hid (merP ls i = merP (ls.drop k) (i - k) ++ [merR (ls.take k)]) := Lib.hid (by rw [HKE.out]; exact merP_high h2 (by rw [← HKE.out]; exact hik))
      have HP : Hid (∀ wx, Ext w wx → Calls Tryd.prog 15 #[.slice a2 (ls.drop k).length c2, .int .i64 (((i - k) : Nat) : Int)] wx fun e w' => ∃ x, e = .returned x ∧ w'.ownsRow wx.heap.size 26 32 x (merP (ls.drop k) (i - k)).length ((merP (ls.drop k) (i - k)).flatten.map bval) ∧ Below wx.heap.size wx w') := Lib.hid (fun wx hx => by
        have hlen : (ls.drop k).length = ls.length - k := by rw [List.length_drop]
        exact HIH.out (ls.drop k).length (by rw [hlen]; have := HK0.out; have := HK1.out; have := HN.out; omega) (ls.drop k) _ (i - k) wx rfl (fun l hl => HBD.out l (List.mem_of_mem_drop hl)) (by rw [hlen]; have := HK1.out; have := HBL.out; omega) (by rw [hlen]; have := HIL.out; omega) (HV2.out.below hx) (HG.out.ext hx))
      have HR : Hid (∀ wx, Ext w wx → Calls Tryd.prog 12 #[.slice a1 (ls.take k).length c1] wx fun e w' => e = .returned (.agg ((merR (ls.take k)).map bval).toArray) ∧ Below wx.heap.size wx w') := Lib.hid (fun wx hx => rRoot_any (ls.take k) _ wx (fun l hl => HBD.out l (List.mem_of_mem_take hl)) (by have := HBL.out; rw [List.length_take]; omega) (HV1.out.below hx) (HG.out.ext hx))
      have HPM : Hid ((merP (ls.drop k) (i - k)).length ≤ 60) := Lib.hid (merP_most 60 _ _ (by rw [List.length_drop]; have := HBL.out; omega))
      have HbL : Hid ((merR (ls.take k)).length = 32) := Lib.hid (merR_length _)
      have HSUB : Hid (IntKind.i64.wrap ((i : Int) - (k : Int)) = ((i - k : Nat) : Int)) := Lib.hid (by rw [IntKind.wrap_i64]; have := HIL.out; have := HBL.out; omega)
      generalize merP (ls.drop k) (i - k) = pl at *
      generalize merR (ls.take k) = rb at *
      generalize (ls.take k).length = n1 at *
      generalize (ls.drop k).length = n2 at *
      generalize i - k = ik at *
      clear HIH HKE HV1 HV2 hik
      go_upto_region 6 with (fail)
      have B0 : Ext w w.drew := Ext.drew _
      refine wp_region_held_drew (S := fun w' => Ext w w') (by kernel_rfl) B0 (fun hHeld => ?_)
      refine wpAnyH_take (i := 0) (v := .slice a ls.length cap) rfl (by kernel_rfl) (by kernel_rfl) (by kernel_rfl) (fun _ _ _ h => h) (yi_move _ (.slice a ls.length cap) (by rfl) rfl rfl) hHeld ?_
      simp only [Act.put, List.getElem_toArray, List.getElem_cons_zero, List.getElem_cons_succ, List.setIfInBounds_toArray, List.set_cons_zero, List.set_cons_succ]
      refine wpAnyH_take (i := 1) (v := .int .i64 (k : Int)) rfl (by kernel_rfl) (by kernel_rfl) (by kernel_rfl) (fun _ _ _ h => h) (yi_move _ (.int .i64 (k : Int)) (by rfl) rfl rfl) hHeld ?_
      simp only [Act.put, List.getElem_toArray, List.getElem_cons_zero, List.getElem_cons_succ, List.setIfInBounds_toArray, List.set_cons_zero, List.set_cons_succ]
      refine wpAnyH_take (i := 2) (v := .slice a2 n2 c2) rfl (by kernel_rfl) (by kernel_rfl) (by kernel_rfl) (fun _ _ _ h => h) (yi_slice _ _ _ _ (.slice a ls.length cap) (.slice a2 n2 c2) (some (.int .i64 (k : Int))) none (by rfl) rfl rfl rfl rfl HS2.out) hHeld ?_
      simp only [Act.put, List.getElem_toArray, List.getElem_cons_zero, List.getElem_cons_succ, List.setIfInBounds_toArray, List.set_cons_zero, List.set_cons_succ]
      refine wpAnyH_take (i := 3) (v := .int .i64 (i : Int)) rfl (by kernel_rfl) (by kernel_rfl) (by kernel_rfl) (fun _ _ _ h => h) (yi_move _ (.int .i64 (i : Int)) (by rfl) rfl rfl) hHeld ?_
      simp only [Act.put, List.getElem_toArray, List.getElem_cons_zero, List.getElem_cons_succ, List.setIfInBounds_toArray, List.set_cons_zero, List.set_cons_succ]
      refine wpAnyH_take (i := 4) (v := .int .i64 (k : Int)) rfl (by kernel_rfl) (by kernel_rfl) (by kernel_rfl) (fun _ _ _ h => h) (yi_move _ (.int .i64 (k : Int)) (by rfl) rfl rfl) hHeld ?_
      simp only [Act.put, List.getElem_toArray, List.getElem_cons_zero, List.getElem_cons_succ, List.setIfInBounds_toArray, List.set_cons_zero, List.set_cons_succ]
      refine wpAnyH_take (i := 5) (v := .int .i64 (ik : Int)) rfl (by kernel_rfl) (by kernel_rfl) (by kernel_rfl) (fun _ _ _ h => h) (yi_sub .i64 _ _ _ _ _ _ (ik : Int) HSUB.out (by rfl) rfl rfl rfl) hHeld ?_
      simp only [Act.put, List.getElem_toArray, List.getElem_cons_zero, List.getElem_cons_succ, List.setIfInBounds_toArray, List.set_cons_zero, List.set_cons_succ]
      refine wpAnyH_take (i := 7) (v := .slice a ls.length cap) rfl (by kernel_rfl) (by kernel_rfl) (by kernel_rfl) (fun _ _ _ h => h) (yi_move _ (.slice a ls.length cap) (by rfl) rfl rfl) hHeld ?_
      simp only [Act.put, List.getElem_toArray, List.getElem_cons_zero, List.getElem_cons_succ, List.setIfInBounds_toArray, List.set_cons_zero, List.set_cons_succ]
      refine wpAnyH_take (i := 8) (v := .int .i64 (k : Int)) rfl (by kernel_rfl) (by kernel_rfl) (by kernel_rfl) (fun _ _ _ h => h) (yi_move _ (.int .i64 (k : Int)) (by rfl) rfl rfl) hHeld ?_
      simp only [Act.put, List.getElem_toArray, List.getElem_cons_zero, List.getElem_cons_succ, List.setIfInBounds_toArray, List.set_cons_zero, List.set_cons_succ]
      refine wpAnyH_take (i := 9) (v := .slice a1 n1 c1) rfl (by kernel_rfl) (by kernel_rfl) (by kernel_rfl) (fun _ _ _ h => h) (yi_slice _ _ _ _ (.slice a ls.length cap) (.slice a1 n1 c1) none (some (.int .i64 (k : Int))) (by rfl) rfl rfl rfl rfl HS1.out) hHeld ?_
      simp only [Act.put, List.getElem_toArray, List.getElem_cons_zero, List.getElem_cons_succ, List.setIfInBounds_toArray, List.set_cons_zero, List.set_cons_succ]
      refine wpAnyH_ready (rs := [6]) (by kernel_rfl) (by simp) (AllReadyH.cons rfl (fun K hK => ?_) AllReadyH.nil)
      go_simp
      refine (HP.out w.drew B0).mono ?_
      rintro e m1 ⟨x1, rfl, o1, b1⟩
      have o1 := own_mono o1 B0.size
      have N1 : Ext w m1 := B0.trans b1
      refine hK.out _ _ N1 (fun hHeld => ?_)
      clear hK K
      try simp only [Act.put, List.getElem_toArray, List.getElem_cons_zero, List.getElem_cons_succ, List.setIfInBounds_toArray, List.set_cons_zero, List.set_cons_succ]
      refine wpAnyH_ready (rs := [10]) (by kernel_rfl) (by simp) (AllReadyH.cons rfl (fun K hK => ?_) AllReadyH.nil)
      go_simp
      refine (HR.out m1 N1).mono ?_
      rintro e m2 ⟨rfl, b2⟩
      have o1 := own_below o1 b2
      have N2 : Ext w m2 := N1.trans b2
      refine hK.out _ _ N2 (fun hHeld => ?_)
      clear hK K
      try simp only [Act.put, List.getElem_toArray, List.getElem_cons_zero, List.getElem_cons_succ, List.setIfInBounds_toArray, List.set_cons_zero, List.set_cons_succ]
      refine wpAnyH_ready (rs := [11]) (by kernel_rfl) (by simp) (AllReadyH.cons rfl (fun K hK => ?_) AllReadyH.nil)
      refine step_wp (by rfl) ?_
      refine wp_build_num (some 37) _ _ _ rb rfl rfl Tryd.underlying28 HQ0.out HQ1.out HQ2.out (by rfl) rfl HbL.out ?_
      obtain ⟨m3, hm3⟩ : ∃ wNew, wNew = World.alloc m2 (.cells (rb.map bval).toArray 26) := ⟨_, rfl⟩
      rw [← hm3]
      have b3 : Ext m2 m3 := by rw [hm3]; exact Ext.alloc _ _
      obtain ⟨g3, hg3⟩ : ∃ gNew, gNew = (m2).heap.size := ⟨_, rfl⟩
      rw [← hg3]
      have o1 := own_below o1 b3
      have z3 : Blk m3 g3 (rb.map bval) 26 := by rw [hm3, hg3]; exact Blk.made _ _ _
      clear hm3 hg3
      have N3 : Ext w m3 := N2.trans b3
      refine hK.out _ _ N3 (fun hHeld => ?_)
      clear hK K
      try simp only [Act.put, List.getElem_toArray, List.getElem_cons_zero, List.getElem_cons_succ, List.setIfInBounds_toArray, List.set_cons_zero, List.set_cons_succ]
      refine wpAnyH_ready (rs := [12]) (by kernel_rfl) (by simp) (AllReadyH.cons rfl (fun K hK => ?_) AllReadyH.nil)
      refine step_wp (by rfl) ?_
      refine wp_append_num (some 38) _ _ _ rfl rfl (w).heap.size _ Tryd.underlying28 HQ0.out HQ1.out HQ2.out HQ3.out (by rfl) _ _ _ rfl o1 g3 1 rb rfl z3.range HbL.out (by have := HPM.out; omega) N3.size ?_
      intro v4 m4 ho4 hg4
      have N4 : Ext w m4 := ext_ownS N3 o1 (Nat.le_refl _) hg4
      refine hK.out _ _ N4 (fun hHeld => ?_)
      clear hK K
      try simp only [Act.put, List.getElem_toArray, List.getElem_cons_zero, List.getElem_cons_succ, List.setIfInBounds_toArray, List.set_cons_zero, List.set_cons_succ]
      refine wpAnyH_ready (rs := [13]) (by kernel_rfl) (by simp) (AllReadyH.cons rfl (fun K hK => ?_) AllReadyH.nil)
      go_simp
      refine hK.out _ _ N4 (fun hHeld => ?_)
      clear hK K
      try simp only [Act.put, List.getElem_toArray, List.getElem_cons_zero, List.getElem_cons_succ, List.setIfInBounds_toArray, List.set_cons_zero, List.set_cons_succ]
      refine wpAnyH_done (by kernel_rfl) ?_ _
      have HO := Lib.hid ho4
      have HN9 : Hid (Ext w m4) := Lib.hid N4
      generalize m4 = w9 at HO HN9 ⊢
      go_wp2_with fail
      go_ret
      exact ⟨_, rfl, own_eqS HO.out (by rw [HPE.out, List.length_append, List.length_singleton]) (by rw [HPE.out, flat_snoc, List.map_append]), HN9.out⟩
theorem rPath_any (ls : List (List UInt8)) (v : Value) (i : Nat) (w : World) (hb : ∀ l ∈ ls, l.length ≤ 1000000000) (hl : ls.length ≤ 1152921504606846976) (hi : i < ls.length) (hv : RowB w v ls) (hG : GlobK w) :
    Calls Tryd.prog 15 #[v, .int .i64 (i : Int)] w fun e w' => ∃ x, e = .returned x ∧ w'.ownsRow w.heap.size 26 32 x (merP ls i).length ((merP ls i).flatten.map bval) ∧ Below w.heap.size w w' :=
  Nat.strongRecOn (motive := PathSaid) ls.length rPath_step ls v i w rfl hb hl hi hv hG

end Go.Proofs.YtcadfccijeodbaaDoor

/- What a slice of bytes takes. -/
namespace Go.Proofs.YtcadfccijeodbaaDoor

theorem Tryd.info34 : (Tryd.prog.info? 34).map (fun i => (i.zero, i.size)) = some (some (.slice none 0 0), 1) := by kernel_rfl

end Go.Proofs.YtcadfccijeodbaaDoor

/- The hash by blocks: a block of its own, what stands behind whole blocks makes no difference, the last blocks, the words laid out. No program. Each theorem names its own conditions. -/
namespace Go.Proofs.YtcadfccijeodbaaDoor
open Go.RowKit
set_option linter.unusedVariables false
set_option linter.unusedSimpArgs false

theorem beW_cut {m : List UInt8} {s k : Nat} (h : k + 4 ≤ 64) : beW ((m.drop s).take 64) k = beW m (s + k) := by
  have g : ∀ j, j < 64 → ((m.drop s).take 64).getD j 0 = m.getD (s + j) 0 := fun j hj => by
    simp only [List.getD, List.getElem?_take, if_pos hj, List.getElem?_drop]
  unfold beW
  rw [g k (by omega), g (k + 1) (by omega), g (k + 2) (by omega), g (k + 3) (by omega)]
  rfl
theorem wTop_cut (m : List UInt8) (s : Nat) : ∀ k, k ≤ 16 → wTop ((m.drop s).take 64) 0 k = wTop m s k
  | 0, _ => rfl
  | k + 1, h => by
    rw [wTop, wTop, wTop_cut m s k (by omega), Nat.zero_add, beW_cut (by omega)]
theorem wSch_cut (m : List UInt8) (s : Nat) : ∀ n, wSch ((m.drop s).take 64) 0 n = wSch m s n
  | 0 => wTop_cut m s 16 (Nat.le_refl _)
  | n + 1 => by rw [wSch, wSch, wSch_cut m s n]
theorem hRun_mix (m : List UInt8) (n : Nat) : hRun m (n + 1) = mixF (hRun m n) ((m.drop (64 * n)).take 64) := by
  rw [hRun, mixF, wSch_cut]
theorem hRun_front (p q : List UInt8) : ∀ n, 64 * n ≤ p.length → hRun (p ++ q) n = hRun p n
  | 0, _ => rfl
  | n + 1, h => by
    rw [hRun_mix, hRun_mix, hRun_front p q n (by omega)]
    congr 1
    rw [List.drop_append_of_le_length (by omega), List.take_append_of_le_length (by rw [List.length_drop]; omega)]
/-- One more block. -/
theorem hRun_block (p x : List UInt8) (n : Nat) (hp : p.length = 64 * n) (hx : x.length = 64) (q : List UInt8) : hRun (p ++ x ++ q) (n + 1) = mixF (hRun p n) x := by
  rw [hRun_mix, List.append_assoc, hRun_front p (x ++ q) n (by omega), List.drop_append_of_le_length (by omega), ← hp, List.drop_length, List.nil_append, List.take_append_of_le_length (by omega), List.take_of_length_le (by omega)]

theorem ofNat_mod (n : Nat) : UInt8.ofNat (n % 256) = UInt8.ofNat n := by
  apply UInt8.toNat_inj.1
  rw [UInt8.toNat_ofNat', UInt8.toNat_ofNat']
  omega
/-- A word's bytes. -/
def be4 (x : W32) : List UInt8 := [UInt8.ofNat (x.toNat / 16777216), UInt8.ofNat (x.toNat / 65536), UInt8.ofNat (x.toNat / 256), UInt8.ofNat x.toNat]
theorem put4_at (a b : List UInt8) (x0 x1 x2 x3 : UInt8) (x : W32) : put4 (a ++ x0 :: x1 :: x2 :: x3 :: b) a.length x = a ++ be4 x ++ b := by
  unfold put4 be4
  rw [List.set_append_right _ _ (by omega), List.set_append_right _ _ (by omega), List.set_append_right _ _ (by omega), List.set_append_right _ _ (by omega)]
  have e1 : a.length + 1 - a.length = 1 := by omega
  have e2 : a.length + 2 - a.length = 2 := by omega
  have e3 : a.length + 3 - a.length = 3 := by omega
  rw [Nat.sub_self, e1, e2, e3]
  simp
/-- The length's two words. -/
theorem be4_len (n : Nat) (h : n ≤ 1099511627776) : be4 (BitVec.ofNat 32 (n / 536870912)) ++ be4 (BitVec.ofNat 32 (8 * n)) = beB 8 (8 * n) := by
  have e1 : (BitVec.ofNat 32 (n / 536870912)).toNat = n / 536870912 := by rw [BitVec.toNat_ofNat]; omega
  have e2 : (BitVec.ofNat 32 (8 * n)).toNat = 8 * n % 4294967296 := by rw [BitVec.toNat_ofNat]
  have g : ∀ a b : Nat, a % 256 = b % 256 → UInt8.ofNat a = UInt8.ofNat b := fun a b h => by rw [← ofNat_mod a, ← ofNat_mod b, h]
  simp only [be4, beB, e1, e2, List.cons_append, List.nil_append, Nat.reducePow, List.cons.injEq, and_true]
  refine ⟨g _ _ ?_, g _ _ ?_, g _ _ ?_, g _ _ ?_, g _ _ ?_, g _ _ ?_, g _ _ ?_, g _ _ ?_⟩ <;> omega
/-- A last block: what stands, the bit, noughts. -/
def lastB (l : List UInt8) (f : Nat) : List UInt8 := l.take f ++ 128 :: List.replicate (63 - f) 0
theorem lastB_length {l : List UInt8} {f : Nat} (hl : f ≤ l.length) (hf : f < 64) : (lastB l f).length = 64 := by
  simp [lastB]
  omega
theorem rep8 : List.replicate 8 (0 : UInt8) = [0, 0, 0, 0, 0, 0, 0, 0] := rfl
theorem put_len (a : List UInt8) (n : Nat) (ha : a.length = 56) (h : n ≤ 1099511627776) :
    put4 (put4 (a ++ List.replicate 8 0) 56 (BitVec.ofNat 32 (n / 536870912))) 60 (BitVec.ofNat 32 (8 * n)) = a ++ beB 8 (8 * n) := by
  have e1 := put4_at a [0, 0, 0, 0] 0 0 0 0 (BitVec.ofNat 32 (n / 536870912))
  rw [ha] at e1
  rw [rep8, e1]
  have e2 := put4_at (a ++ be4 (BitVec.ofNat 32 (n / 536870912))) [] 0 0 0 0 (BitVec.ofNat 32 (8 * n))
  have e3 : (a ++ be4 (BitVec.ofNat 32 (n / 536870912))).length = 60 := by simp [be4, ha]
  rw [e3] at e2
  rw [e2, List.append_nil, List.append_assoc, be4_len n h]
/-- The hash of what ends within one more block. -/
theorem close_one (p l : List UInt8) (n f : Nat) (hp : p.length = 64 * n + f) (hf : f < 56) (hl : l.length = 64) (hlf : l.take f = p.drop (64 * n)) (hb : p.length ≤ 1099511627776) :
    hRun (padded p) ((p.length + 72) / 64) = mixF (hRun p n) (put4 (put4 (lastB l f) 56 (BitVec.ofNat 32 (p.length / 536870912))) 60 (BitVec.ofNat 32 (8 * p.length))) := by
  have e1 : lastB l f = (l.take f ++ 128 :: List.replicate (55 - f) 0) ++ List.replicate 8 0 := by
    unfold lastB
    rw [show 63 - f = (55 - f) + 8 from by omega, ← List.replicate_append_replicate]
    simp
  rw [e1, put_len _ _ (by simp; omega) hb, hlf]
  have e2 : (p.length + 72) / 64 = n + 1 := by omega
  have e3 : padN p.length = 55 - f := by unfold padN; omega
  have e4 : padded p = p.take (64 * n) ++ (p.drop (64 * n) ++ 128 :: List.replicate (55 - f) 0 ++ beB 8 (8 * p.length)) ++ [] := by
    unfold padded
    rw [e3]
    simp only [List.append_assoc, List.append_nil, List.cons_append, List.nil_append]
    rw [← List.append_assoc, List.take_append_drop]
  have e5 : hRun p n = hRun (p.take (64 * n)) n := by
    have h := hRun_front (p.take (64 * n)) (p.drop (64 * n)) n (by simp; omega)
    rwa [List.take_append_drop] at h
  rw [e2, e4, e5, hRun_block _ _ n (by simp; omega) (by simp [beB_length]; omega)]
/-- The hash of what needs two. -/
theorem close_two (p l : List UInt8) (n f : Nat) (hp : p.length = 64 * n + f) (hf : 56 ≤ f) (hf2 : f < 64) (hl : l.length = 64) (hlf : l.take f = p.drop (64 * n)) (hb : p.length ≤ 1099511627776) :
    hRun (padded p) ((p.length + 72) / 64) = mixF (mixF (hRun p n) (lastB l f)) (put4 (put4 (List.replicate 64 0) 56 (BitVec.ofNat 32 (p.length / 536870912))) 60 (BitVec.ofNat 32 (8 * p.length))) := by
  have e1 : List.replicate 64 (0 : UInt8) = List.replicate 56 0 ++ List.replicate 8 0 := rfl
  rw [e1, put_len _ _ (by simp) hb]
  have e2 : (p.length + 72) / 64 = n + 1 + 1 := by omega
  have e3 : padN p.length = (63 - f) + 56 := by unfold padN; omega
  have e4 : padded p = (p.take (64 * n) ++ lastB l f) ++ (List.replicate 56 0 ++ beB 8 (8 * p.length)) ++ [] := by
    unfold padded lastB
    rw [e3, hlf, ← List.replicate_append_replicate]
    simp only [List.append_assoc, List.append_nil, List.cons_append, List.nil_append]
    exact (congrArg (· ++ 128 :: (List.replicate (63 - f) 0 ++ (List.replicate 56 0 ++ beB 8 (8 * p.length)))) (List.take_append_drop (64 * n) p)).symm.trans (List.append_assoc _ _ _)
  have e5 : hRun p n = hRun (p.take (64 * n)) n := by
    have h := hRun_front (p.take (64 * n)) (p.drop (64 * n)) n (by simp; omega)
    rwa [List.take_append_drop] at h
  have hlb := lastB_length (l := l) (f := f) (by omega) hf2
  have e6 := hRun_block (p.take (64 * n)) (lastB l f) n (by simp; omega) hlb []
  rw [List.append_nil] at e6
  rw [e2, e4, e5, hRun_block _ _ (n + 1) (by rw [List.length_append, hlb]; simp; omega) (by simp [beB_length]), e6]

/-- The first k words, laid out. -/
def outK (h : List W32) : Nat → List UInt8
  | 0 => List.replicate 32 0
  | k + 1 => put4 (outK h k) (4 * k) (h.getD k 0#32)
theorem outK_length (h : List W32) : ∀ k, (outK h k).length = 32
  | 0 => by simp [outK]
  | k + 1 => by rw [outK, put4_length, outK_length h k]
theorem outK_full : ∀ (h : List W32), h.length = 8 → outK h 8 = outB h
  | [a, b, c, d, e, f, g, i], _ => by
    simp only [outK, put4, outB, List.range, List.range.loop, List.map_cons, List.map_nil, ofNat_mod, List.replicate, List.getD_cons_zero, List.getD_cons_succ, List.set_cons_zero, List.set_cons_succ, Nat.reduceMul, Nat.reduceAdd, Nat.reduceDiv, Nat.reduceMod, Nat.reduceSub, Nat.reducePow, Nat.div_one]

end Go.Proofs.YtcadfccijeodbaaDoor

/- clear(s) of a slice of bytes that lies in a block known whole. Nothing here speaks of a program. Each theorem names its own conditions. -/
namespace Go.Proofs.YtcadfccijeodbaaDoor
open Go.RowKit
set_option linter.unusedVariables false

section
variable {P : Program} {w : World}
theorem zeroCells_one (x : Value) (n : Nat) : (Builtin.zeroCells #[x] n).toList = List.replicate n x := by
  unfold Builtin.zeroCells
  rw [Array.toList_map]
  apply List.ext_getElem
  · simp
  · intro i h1 h2
    simp [Nat.mod_one]
theorem run_clear_bytes {t e ty : TypeId} (ht : P.underlying t = some (.slice e)) (hz : ∀ w, (zeroValue e).run P w = .ok (.int .u8 0) w) (c o n cap : Nat) (cs : List Value) (tb : TypeId) (hb : Blk w c cs tb) (hn : o + n ≤ cs.length) :
    (Builtin.clear_ #[t] ty #[.slice (some ⟨c, o, none⟩) n cap]).run P w = .ok (.tuple #[]) (w.setCells c o (List.replicate n (.int .u8 0))) := by
  cases n with
  | zero => simp [Builtin.clear_, run_underlying ht, World.setCells]
  | succ n =>
    have hst := run_storeCells_cells (P := P) c o (List.replicate (n + 1) (.int .u8 0)) 0 w (fun j hj => by
      rw [hb.cell, List.getElem?_eq_getElem (by rw [List.length_replicate] at hj; omega)]
      rfl) (fun j _ => hb.free _) (fun v hv => by rw [List.eq_of_mem_replicate hv]; rfl)
    rw [Nat.add_zero] at hst
    simp [Builtin.clear_, run_underlying ht, hz, Value.cells, zeroCells_one, hst]
end

theorem laid_append : ∀ (vs a b : List Value), vs.length = b.length → laid (a ++ b) a.length vs = a ++ vs
  | [], a, [], _ => rfl
  | v :: r, a, x :: b, h => by
    rw [laid, List.set_append_right _ _ (Nat.le_refl _), Nat.sub_self, List.set_cons_zero]
    have ih := laid_append r (a ++ [v]) b (by simpa using h)
    simpa using ih

end Go.Proofs.YtcadfccijeodbaaDoor

/- The walks of package sha's start, closed, numOf. Each theorem names its own conditions. -/
namespace Go.Proofs.YtcadfccijeodbaaDoor
open Go.RowKit
set_option linter.unusedVariables false
set_option linter.unusedSimpArgs false

set_option maxHeartbeats 1000000 in
theorem start_any (w : World) : Calls Tryd.prog 26 #[] w fun e w' => e = .returned (.agg (ints .u32 (ws H256)).toArray) ∧ Below w.heap.size w w' := by
  have HZ := Lib.hid (Blk.made w (ints .u32 (List.replicate 8 0)) 49)
  have HE := Lib.hid (Ext.alloc w (.cells (ints .u32 (List.replicate 8 0)).toArray 49))
  go_enter Tryd.func26, Tryd.ntmps26
  go_wp2_with (refine wpList_store_blk rfl _ _ _ rfl w.heap.size (ints .u32 (ws H256)) rfl rfl _ _ HZ.out rfl Tryd.arr49 (ints_one _ _) ?_; intro w1 hb1 hg1)
  refine bodyPost_ret (result_blk rfl _ w.heap.size _ _ _ _ rfl hb1 Tryd.underlying49 Tryd.arr49) rfl ?_
  exact ⟨rfl, ext_grown HE.out hg1 (Nat.le_refl _)⟩

theorem build_block (w : World) : (Instr.build 55 #[]).run Tryd.prog w = .ok (.agg ((List.replicate 64 (0 : UInt8)).map bval).toArray) w := by
  simp [Instr.build, Tryd.zeroValue55]
  rfl
theorem index_words {T e : TypeId} {n : Nat} (hT : Tryd.prog.underlying T = some (.array n e)) (hs : ∀ w, (sizeOf e).run Tryd.prog w = .ok 1 w) (ha : ∀ w, (isAgg e).run Tryd.prog w = .ok false w) (h : List W32) (hl : h.length = n) (k : Nat) (hk : k < n) (w : World) :
    (Instr.index T (.agg (ints .u32 (ws h)).toArray) (.int .i64 (k : Int))).run Tryd.prog w = .ok (.int .u32 (wi (h.getD k 0#32))) w := by
  have hg : (ints .u32 (ws h))[k]? = some (.int .u32 (wi (h.getD k 0#32))) := by rw [ints_get (by rw [ws_length, hl]; exact hk), ws_getD]
  have hi : 0 ≤ (k : Int) ∧ (k : Int) < (n : Int) := by omega
  unfold Instr.index
  simp only [asIntOf, Sem.run_bind, Sem.run_pure, Result.andThen_ok, run_underlying hT, hi, hs, part, ha]
  rw [if_pos ⟨trivial, trivial⟩]
  simp only [Sem.run_bind, hs, ha, Result.andThen_ok, Int.toNat_natCast, Nat.mul_one, List.getElem?_toArray, hg, Bool.false_eq_true, if_false, Sem.run_pure]

set_option maxRecDepth 100000 in
set_option maxHeartbeats 8000000 in
theorem sha_numOf_any (h : List W32) (hh : h.length = 8) (w : World) : Calls Tryd.prog 30 #[.agg (ints .u32 (ws h)).toArray] w fun e w' => e = .returned (.agg ((outB h).map bval).toArray) ∧ Below w.heap.size w w' := by
  have HH := Lib.hid hh
  have HB := Lib.hid (boxes3u w (ints .u32 (ws h)) (ints .u8 (List.replicate 32 0)) (ints .u8 (List.replicate 32 0)) 49 26 26)
  have HIr : Hid ((Tryd.prog.info? 49).map (·.size) = some (ints .u32 (ws h)).length) := Lib.hid (by rw [ints_length, ws_length, hh]; exact Tryd.arr49)
  clear hh
  go_enter Tryd.func30, Tryd.ntmps30
  go_upto_region 2 with (fail)
  obtain ⟨H1, H2, H3, HE⟩ := HB.out
  change Code.wp _ _ _ _ (((w.alloc (.cells (ints .u32 (ws h)).toArray 49)).alloc (.cells (ints .u8 (List.replicate 32 0)).toArray 26)).alloc (.cells (ints .u8 (List.replicate 32 0)).toArray 26))
  generalize (((w.alloc (.cells (ints .u32 (ws h)).toArray 49)).alloc (.cells (ints .u8 (List.replicate 32 0)).toArray 26)).alloc (.cells (ints .u8 (List.replicate 32 0)).toArray 26)) = w3 at *
  obtain ⟨A, hA⟩ : ∃ A, A = w.heap.size := ⟨_, rfl⟩
  rw [← hA] at H1 H2 H3 ⊢
  have hA2 : w.heap.size ≤ A := by omega
  have H1 := Lib.hid H1
  have H2 := Lib.hid H2
  have H3 := Lib.hid H3
  have HE : Hid (Ext w w3) := Lib.hid HE
  clear hA HB
  go_wp2_with (refine wpList_load_blk rfl _ _ rfl A rfl _ _ _ _ H1.out Tryd.underlying49 HIr.out ?_)
  go_loopw [7] (fun iv wr => ∃ (k : Nat), k ≤ 8 ∧ iv = .int .i64 (k : Int) ∧ Blk wr (A + 1) (ints .u8 (List.replicate 32 0)) 26 ∧ Blk wr (A + 1 + 1) ((outK h k).map bval) 26 ∧ Ext w wr) (fun iv _ => 8 - (intOf iv).toNat)
  case atStart => exact ⟨0, by omega, rfl, H2.out, H3.out, HE.out⟩
  case round =>
    clear H1 H2 H3 HE
    obtain ⟨k, hk, rfl, hb2, hb3, hbel⟩ := hrel
    have k0 : (0 : Int) ≤ (k : Int) := Int.natCast_nonneg _
    by_cases hlk : k < 8
    · have k1 : (k : Int) < 8 := by omega
      have hi := index_words Tryd.underlying49 Tryd.sizeOf47 Tryd.isAgg47 h HH.out k hlk
      have hs := cut_arr Tryd.underlying26 num_cells Tryd.sizeOf5 wr (A + 1 + 1) (4 * k) (by omega)
      have e4 : ((4 * k : Nat) : Int) = 4 * (k : Int) := by omega
      rw [e4] at hs
      have HP := Lib.hid (put_any (A + 1 + 1) (4 * k) (32 - 4 * k) (32 - 4 * k) (outK h k) (h.getD k 0#32) _ wr hb3 (by rw [outK_length]; omega) (by omega))
      have HK : Hid (outK h (k + 1) = put4 (outK h k) (4 * k) (h.getD k 0#32)) := Lib.hid rfl
      have H2 := Lib.hid hb2
      have HE := Lib.hid hbel
      clear hb2 hb3 hbel e4
      generalize h.getD k 0#32 = y at *
      go_wp2_with fail
      refine HP.out.mono ?_
      rintro e w4 ⟨rfl, hb, hg⟩
      have H2 := Lib.hid (H2.out.grown hg (by simp))
      have HE := Lib.hid (ext_grown HE.out hg (by omega))
      have H3 := Lib.hid hb
      clear hb hg HP hs hi
      go_wp2_with fail
      go_roundw
      case rel => exact ⟨k + 1, by omega, by go_num, H2.out, by rw [HK.out]; exact H3.out, HE.out⟩
      case measure => simp [intOf]; omega
    · have hk8 : k = 8 := by omega
      subst hk8
      rw [outK_full h HH.out] at hb3
      have H2 := Lib.hid hb2
      have H3 := Lib.hid hb3
      have HE := Lib.hid hbel
      clear hb2 hb3 hbel
      have HIo : Hid ((Tryd.prog.info? 26).map (·.size) = some ((outB h).map bval).length) := Lib.hid (num_size (outB_length h))
      have HLo : Hid (((outB h).map bval).length = (ints .u8 (List.replicate 32 0)).length) := Lib.hid (by rw [List.length_map, outB_length, ints_length, List.length_replicate])
      go_wp2_with (first | (refine wpList_load_blk rfl _ _ rfl (A + 1 + 1) rfl _ _ _ _ H3.out Tryd.underlying26 HIo.out ?_) | (refine wpList_store_blk rfl _ _ _ rfl (A + 1) ((outB h).map bval) rfl rfl _ _ H2.out HLo.out HIo.out (bval_one _) ?_; intro w4 hb4 hg4))
      refine bodyPost_ret (result_blk rfl _ (A + 1) _ _ _ _ rfl hb4 Tryd.underlying26 HIo.out) rfl ?_
      exact ⟨rfl, ext_grown HE.out hg4 (by omega)⟩

theorem cut_arr2 {t : TypeId} {n : Nat} {e : TypeId} (ht : Tryd.prog.underlying t = some (.array n e)) (h : ∀ w, (sizeOf e).run Tryd.prog w = .ok 1 w) (w : World) (A p : Nat) (hp : p ≤ n) :
    ∃ o, o + (n - p) ≤ n ∧ (p < n → o = p) ∧ (Instr.sliceAt t (.pointer (some ⟨A, 0, none⟩)) (some (.int .i64 (p : Int))) none none).run Tryd.prog w = .ok (.slice (some ⟨A, o, none⟩) (n - p) (n - p)) w := by
  have e1 : Tryd.prog.arrayLen t = n := by unfold Program.arrayLen; rw [ht]
  have e2 : Tryd.prog.elem t = e := by unfold Program.elem; rw [ht]
  have hr := run_sliceAt_array_l w t ⟨A, 0, none⟩ (by rw [e1, e2]; exact ht) .i64 (p : Int) (by omega) (by rw [e1]; omega)
  rw [e2, h, e1] at hr
  by_cases hpn : n = p
  · refine ⟨0, by omega, by omega, ?_⟩
    rw [hr]
    simp [slicedAt, hpn]
  · refine ⟨p, by omega, fun _ => rfl, ?_⟩
    rw [hr]
    simp [slicedAt, Addr.add, hpn]
    exact fun h => h.symm
/-- The bit and the noughts behind it, laid over a block. -/
theorem laid_last (l : List UInt8) (f o : Nat) (hl : l.length = 64) (hf : f < 64) (ho : f + 1 < 64 → o = f + 1) :
    laid ((l.map bval).set f (.int .u8 128)) o (List.replicate (63 - f) (.int .u8 0)) = (lastB l f).map bval := by
  rw [show 63 - f = 64 - (f + 1) from by omega]
  have e0 : (Value.int .u8 128) = bval 128 := rfl
  have e1 : l.set f 128 = l.take f ++ [128] ++ l.drop (f + 1) := by
    rw [List.set_eq_take_append_cons_drop, if_pos (by omega)]
    simp
  have e2 : (List.replicate (64 - (f + 1)) (Value.int .u8 0)) = (List.replicate (64 - (f + 1)) (0 : UInt8)).map bval := by rw [List.map_replicate]; rfl
  rw [e0, ← List.map_set, e1, e2]
  by_cases h : f + 1 < 64
  · rw [ho h, List.map_append]
    have h3 : f + 1 = ((l.take f ++ [128]).map bval).length := by simp; omega
    have h4 := laid_append ((List.replicate (64 - (f + 1)) (0 : UInt8)).map bval) ((l.take f ++ [128]).map bval) ((l.drop (f + 1)).map bval) (by simp; omega)
    rw [← h3] at h4
    rw [h4, ← List.map_append]
    unfold lastB
    rw [show 64 - (f + 1) = 63 - f from by omega]
    simp
  · have h3 : f = 63 := by omega
    subst h3
    unfold lastB
    simp [laid, hl]

set_option maxRecDepth 100000 in
set_option maxHeartbeats 8000000 in
/-- The hash of p, of which n blocks are told by h and f bytes lie in l. -/
theorem closed_any (p l : List UInt8) (n f : Nat) (w : World) (hp : p.length = 64 * n + f) (hf : f < 64) (hl : l.length = 64) (hlf : l.take f = p.drop (64 * n)) (hb : p.length ≤ 1099511627776) (hG : GlobR w) :
    Calls Tryd.prog 31 #[.agg (ints .u32 (ws (hRun p n))).toArray, .agg (l.map bval).toArray, .int .i64 (f : Int), .int .i64 (p.length : Int)] w fun e w' =>
      e = .returned (.agg (ints .u32 (ws (hRun (padded p) ((p.length + 72) / 64)))).toArray) ∧ Below w.heap.size w w' := by
  have HG := Lib.hid hG
  have HB := Lib.hid (boxes3u w (ints .u32 (ws (hRun p n))) (l.map bval) (ints .u32 (List.replicate 8 0)) 49 55 49)
  have HL := Lib.hid hl
  have HR := Lib.hid (hRun_length p n)
  have hb0 : (p.length : Int) ≤ 1099511627776 := by omega
  have hf0 : (f : Int) < 64 := by omega
  have HC1 : Hid (f < 56 → _) := Lib.hid (fun h56 => close_one p l n f hp h56 hl hlf hb)
  have HC2 : Hid (56 ≤ f → _) := Lib.hid (fun h56 => close_two p l n f hp h56 hf hl hlf hb)
  generalize hRun (padded p) ((p.length + 72) / 64) = R at *
  generalize hRun p n = h at *
  have HLB := Lib.hid (lastB_length (l := l) (f := f) (by omega) hf)
  clear hG hlf hp
  go_enter Tryd.func31, Tryd.ntmps31
  go_upto_region 1 with (fail)
  obtain ⟨H1, H2, H3, HE⟩ := HB.out
  change Code.wp _ _ _ _ (((w.alloc (.cells (ints .u32 (ws h)).toArray 49)).alloc (.cells (l.map bval).toArray 55)).alloc (.cells (ints .u32 (List.replicate 8 0)).toArray 49))
  generalize (((w.alloc (.cells (ints .u32 (ws h)).toArray 49)).alloc (.cells (l.map bval).toArray 55)).alloc (.cells (ints .u32 (List.replicate 8 0)).toArray 49)) = w3 at *
  obtain ⟨A, hA⟩ : ∃ A, A = w.heap.size := ⟨_, rfl⟩
  rw [← hA] at H1 H2 H3 ⊢
  have hA2 : w.heap.size ≤ A := by omega
  have c0 : w3.cell? ⟨A + 1, f, none⟩ = some (.int .u8 ((l.getD f 0).toNat : Int)) := by rw [H2.cell, bval_get (by omega)]
  have f0 := H2.free f
  have H1 := Lib.hid H1
  have H2 := Lib.hid H2
  have H3 := Lib.hid H3
  have HE : Hid (Ext w w3) := Lib.hid HE
  clear hA HB hl
  generalize ((l.getD f 0).toNat : Int) = z0 at *
  obtain ⟨o, ho1, ho2, hs⟩ := cut_arr2 Tryd.underlying55 Tryd.sizeOf5 (w3.setCell ⟨A + 1, f, none⟩ (.int .u8 128)) (A + 1) (f + 1) (by omega)
  have ef : ((f + 1 : Nat) : Int) = (f : Int) + 1 := by omega
  rw [ef] at hs
  have HB3 := Lib.hid (H2.out.set f (.int .u8 128))
  have hcl := run_clear_bytes (ty := 0) Tryd.underlying34 Tryd.zeroValue5 (A + 1) o (63 - f) (63 - f) _ _ HB3.out (by have := HL.out; simp; omega)
  have HLL := Lib.hid (laid_last l f o HL.out hf ho2)
  clear ho1 ho2 ef
  go_upto_region 3 with (fail)
  have H2 := Blk.setCells (List.replicate (63 - f) (.int .u8 0)) _ o _ HB3.out
  rw [HLL.out] at H2
  have hg : w3.grownBy ((w3.setCell ⟨A + 1, f, none⟩ (.int .u8 128)).setCells (A + 1) o (List.replicate (63 - f) (.int .u8 0))) (some (A + 1)) := grownBy_setCells _ _ _ _ (grownBy_set (grownBy_refl w3 _) _ _)
  have H1 := Lib.hid (H1.out.grown hg (by simp))
  have H3 := Lib.hid (H3.out.grown hg (by simp))
  have HE := Lib.hid (ext_grown HE.out hg (by omega))
  have H2 := Lib.hid H2
  generalize (w3.setCell ⟨A + 1, f, none⟩ (.int .u8 128)).setCells (A + 1) o (List.replicate (63 - f) (.int .u8 0)) = w4 at *
  clear hg HB3 HLL hcl hs c0 f0
  generalize hLB : lastB l f = lb at *
  have HI1 : Hid ((Tryd.prog.info? 49).map (·.size) = some (ints .u32 (ws h)).length) := Lib.hid (by rw [ints_length, ws_length, HR.out]; exact Tryd.arr49)
  have HI2 : Hid ((Tryd.prog.info? 55).map (·.size) = some (lb.map bval).length) := Lib.hid (by rw [List.length_map, HLB.out]; exact Tryd.arr55)
  have q1 : (wi (BitVec.ofNat 32 (p.length / 536870912))) = (p.length : Int) / 536870912 := by
    unfold wi
    rw [BitVec.toNat_ofNat]
    omega
  have q2 : (wi (BitVec.ofNat 32 (8 * p.length))) = (p.length : Int) * 8 % 4294967296 := by
    unfold wi
    rw [BitVec.toNat_ofNat]
    omega
  have HQ1 := Lib.hid q1
  have HQ2 := Lib.hid q2
  have hp0 : (0 : Int) ≤ (p.length : Int) := Int.natCast_nonneg _
  generalize (BitVec.ofNat 32 (p.length / 536870912)) = x1 at *
  generalize (BitVec.ofNat 32 (8 * p.length)) = x2 at *
  generalize (p.length : Int) = N at *
  clear q1 q2 hb
  have s56 : ∀ w, (Instr.sliceAt 55 (.pointer (some ⟨A + 1, 0, none⟩)) (some (.int .i64 56)) none none).run Tryd.prog w = .ok (.slice (some ⟨A + 1, 56, none⟩) 8 8) w := fun w => cut_arr Tryd.underlying55 num_cells Tryd.sizeOf5 w (A + 1) 56 (by omega)
  have s60 : ∀ w, (Instr.sliceAt 55 (.pointer (some ⟨A + 1, 0, none⟩)) (some (.int .i64 60)) none none).run Tryd.prog w = .ok (.slice (some ⟨A + 1, 60, none⟩) 4 4) w := fun w => cut_arr Tryd.underlying55 num_cells Tryd.sizeOf5 w (A + 1) 60 (by omega)
  by_cases h56 : f < 56
  · have h57 : (f : Int) < 56 := by omega
    have HP1 := put_any (A + 1) 56 8 8 lb x1 _ w4 H2.out (by rw [HLB.out]; omega) (by omega)
    rw [HQ1.out] at HP1
    have HP1 := Lib.hid HP1
    go_wp2_with fail
    refine HP1.out.mono ?_
    rintro e w5 ⟨rfl, hb, hg⟩
    have H1 := Lib.hid (H1.out.grown hg (by simp))
    have H3 := Lib.hid (H3.out.grown hg (by simp))
    have HE := Lib.hid (ext_grown HE.out hg (by omega))
    have H2 := Lib.hid hb
    clear hb hg HP1
    have HP2 := put_any (A + 1) 60 4 4 (put4 lb 56 x1) x2 _ w5 H2.out (by rw [put4_length, HLB.out]; omega) (by omega)
    rw [HQ2.out] at HP2
    have HP2 := Lib.hid HP2
    go_wp2_with fail
    refine HP2.out.mono ?_
    rintro e w6 ⟨rfl, hb, hg⟩
    have H1 := Lib.hid (H1.out.grown hg (by simp))
    have H3 := Lib.hid (H3.out.grown hg (by simp))
    have HE := Lib.hid (ext_grown HE.out hg (by omega))
    have H2 := Lib.hid hb
    clear hb hg HP2
    have HI3 : Hid ((Tryd.prog.info? 55).map (·.size) = some ((put4 (put4 lb 56 x1) 60 x2).map bval).length) := Lib.hid (by rw [List.length_map, put4_length, put4_length, HLB.out]; exact Tryd.arr55)
    have HI4 : Hid ((Tryd.prog.info? 49).map (·.size) = some (ints .u32 (ws (mixF h (put4 (put4 lb 56 x1) 60 x2)))).length) := Lib.hid (by rw [ints_length, ws_length, mixF_length, HR.out]; exact Tryd.arr49)
    have HI5 : Hid ((ints .u32 (ws (mixF h (put4 (put4 lb 56 x1) 60 x2)))).length = (ints .u32 (List.replicate 8 0)).length) := Lib.hid (by rw [ints_length, ws_length, mixF_length, HR.out, ints_length, List.length_replicate])
    have HM := Lib.hid (mixed_any h (put4 (put4 lb 56 x1) 60 x2) w6 HR.out (by rw [put4_length, put4_length, HLB.out]) (HG.out.ext HE.out))
    go_wp2_with (first | (refine wpList_load_blk rfl _ _ rfl A rfl _ _ _ _ H1.out Tryd.underlying49 HI1.out ?_) | (refine wpList_load_blk rfl _ _ rfl (A + 1) rfl _ _ _ _ H2.out Tryd.underlying55 HI3.out ?_))
    refine HM.out.mono ?_
    rintro e w7 ⟨rfl, hb⟩
    have H3 := Lib.hid (ext_blk H3.out hb)
    have HE := Lib.hid (HE.out.trans hb)
    clear hb
    go_wp2_with (refine wpList_store_blk rfl _ _ _ rfl (A + 1 + 1) (ints .u32 (ws (mixF h (put4 (put4 lb 56 x1) 60 x2)))) rfl rfl _ _ H3.out HI5.out HI4.out (ints_one _ _) ?_; intro w8 hb8 hg8)
    refine bodyPost_ret (result_blk rfl _ (A + 1 + 1) _ _ _ _ rfl hb8 Tryd.underlying49 HI4.out) rfl ?_
    exact ⟨by rw [HC1.out h56], ext_grown HE.out hg8 (by omega)⟩
  · have h57 : 56 ≤ (f : Int) := by omega
    have HMA := Lib.hid (mixed_any h lb w4 HR.out HLB.out (HG.out.ext HE.out))
    go_wp2_with (first | (refine wpList_load_blk rfl _ _ rfl A rfl _ _ _ _ H1.out Tryd.underlying49 HI1.out ?_) | (refine wpList_load_blk rfl _ _ rfl (A + 1) rfl _ _ _ _ H2.out Tryd.underlying55 HI2.out ?_))
    refine HMA.out.mono ?_
    rintro e w9 ⟨rfl, hb⟩
    have H1 := Lib.hid (ext_blk H1.out hb)
    have H2 := Lib.hid (ext_blk H2.out hb)
    have H3 := Lib.hid (ext_blk H3.out hb)
    have HE := Lib.hid (HE.out.trans hb)
    clear hb HMA HI1
    have HRM : Hid ((mixF h lb).length = 8) := Lib.hid (by rw [mixF_length, HR.out])
    have HC3 : Hid (R = _) := Lib.hid (HC2.out (by omega))
    generalize mixF h lb = h1 at *
    have HI1 : Hid ((Tryd.prog.info? 49).map (·.size) = some (ints .u32 (ws h1)).length) := Lib.hid (by rw [ints_length, ws_length, HRM.out]; exact Tryd.arr49)
    have HI6 : Hid ((ints .u32 (ws h1)).length = (ints .u32 (ws h)).length) := Lib.hid (by rw [ints_length, ws_length, HRM.out, ints_length, ws_length, HR.out])
    have HI7 : Hid ((Tryd.prog.info? 55).map (·.size) = some ((List.replicate 64 (0 : UInt8)).map bval).length) := Lib.hid Tryd.arr55
    have HI8 : Hid (((List.replicate 64 (0 : UInt8)).map bval).length = (lb.map bval).length) := Lib.hid (by rw [List.length_map, List.length_map, HLB.out, List.length_replicate])
    have hbz := build_block
    go_upto_region 6 with (first | (refine wpList_store_blk rfl _ _ _ rfl A (ints .u32 (ws h1)) rfl rfl _ _ H1.out HI6.out HI1.out (ints_one _ _) ?_; intro w10 hb10 hg10; have K1 := Lib.hid hb10; have K2 := Lib.hid (H2.out.grown hg10 (by simp)); have K3 := Lib.hid (H3.out.grown hg10 (by simp <;> omega)); have KE := Lib.hid (ext_grown HE.out hg10 (by omega)); clear hb10 hg10) | (refine wpList_store_blk rfl _ _ _ rfl (A + 1) ((List.replicate 64 (0 : UInt8)).map bval) rfl rfl _ _ K2.out HI8.out HI7.out (bval_one _) ?_; intro w11 hb11 hg11))
    have H1 := Lib.hid (K1.out.grown hg11 (by simp))
    have H3 := Lib.hid (K3.out.grown hg11 (by simp))
    have HE := Lib.hid (ext_grown KE.out hg11 (by omega))
    have H2 := Lib.hid hb11
    have HLZ : Hid ((List.replicate 64 (0 : UInt8)).length = 64) := Lib.hid (List.length_replicate)
    generalize List.replicate 64 (0 : UInt8) = lz at *
    clear hb11 hg11 K1 K2 K3 KE HI6 HI7 HI8 HI2
    have HP1 := put_any (A + 1) 56 8 8 lz x1 _ w11 H2.out (by rw [HLZ.out]; omega) (by omega)
    rw [HQ1.out] at HP1
    have HP1 := Lib.hid HP1
    go_wp2_with fail
    refine HP1.out.mono ?_
    rintro e w5 ⟨rfl, hb, hg⟩
    have H1 := Lib.hid (H1.out.grown hg (by simp))
    have H3 := Lib.hid (H3.out.grown hg (by simp))
    have HE := Lib.hid (ext_grown HE.out hg (by omega))
    have H2 := Lib.hid hb
    clear hb hg HP1
    have HP2 := put_any (A + 1) 60 4 4 (put4 lz 56 x1) x2 _ w5 H2.out (by rw [put4_length, HLZ.out]; omega) (by omega)
    rw [HQ2.out] at HP2
    have HP2 := Lib.hid HP2
    go_wp2_with fail
    refine HP2.out.mono ?_
    rintro e w6 ⟨rfl, hb, hg⟩
    have H1 := Lib.hid (H1.out.grown hg (by simp))
    have H3 := Lib.hid (H3.out.grown hg (by simp))
    have HE := Lib.hid (ext_grown HE.out hg (by omega))
    have H2 := Lib.hid hb
    clear hb hg HP2
    have HI3 : Hid ((Tryd.prog.info? 55).map (·.size) = some ((put4 (put4 lz 56 x1) 60 x2).map bval).length) := Lib.hid (by rw [List.length_map, put4_length, put4_length, HLZ.out]; exact Tryd.arr55)
    have HI4 : Hid ((Tryd.prog.info? 49).map (·.size) = some (ints .u32 (ws (mixF h1 (put4 (put4 lz 56 x1) 60 x2)))).length) := Lib.hid (by rw [ints_length, ws_length, mixF_length, HRM.out]; exact Tryd.arr49)
    have HI5 : Hid ((ints .u32 (ws (mixF h1 (put4 (put4 lz 56 x1) 60 x2)))).length = (ints .u32 (List.replicate 8 0)).length) := Lib.hid (by rw [ints_length, ws_length, mixF_length, HRM.out, ints_length, List.length_replicate])
    have HM := Lib.hid (mixed_any h1 (put4 (put4 lz 56 x1) 60 x2) w6 HRM.out (by rw [put4_length, put4_length, HLZ.out]) (HG.out.ext HE.out))
    go_wp2_with (first | (refine wpList_load_blk rfl _ _ rfl A rfl _ _ _ _ H1.out Tryd.underlying49 HI1.out ?_) | (refine wpList_load_blk rfl _ _ rfl (A + 1) rfl _ _ _ _ H2.out Tryd.underlying55 HI3.out ?_))
    refine HM.out.mono ?_
    rintro e w7 ⟨rfl, hb⟩
    have H3 := Lib.hid (ext_blk H3.out hb)
    have HE := Lib.hid (HE.out.trans hb)
    clear hb
    go_wp2_with (refine wpList_store_blk rfl _ _ _ rfl (A + 1 + 1) (ints .u32 (ws (mixF h1 (put4 (put4 lz 56 x1) 60 x2)))) rfl rfl _ _ H3.out HI5.out HI4.out (ints_one _ _) ?_; intro w8 hb8 hg8)
    refine bodyPost_ret (result_blk rfl _ (A + 1 + 1) _ _ _ _ rfl hb8 Tryd.underlying49 HI4.out) rfl ?_
    exact ⟨by rw [HC3.out], ext_grown HE.out hg8 (by omega)⟩

end Go.Proofs.YtcadfccijeodbaaDoor

/- The walk of package pieces' move: the next bytes of the open string, laid over a block. Each theorem names its own conditions. -/
namespace Go.Proofs.YtcadfccijeodbaaDoor
open Go.RowKit
set_option linter.unusedVariables false
set_option linter.unusedSimpArgs false

theorem splice_map (l c : List UInt8) (f : Nat) : splice (l.map bval) f (c.map bval) = (l.take f ++ c ++ l.drop (f + c.length)).map bval := by
  unfold splice
  simp
theorem num_one : (Tryd.prog.info? 5).map (·.size) = some 1 := by kernel_rfl
/-- A slice's length. -/
def lenV : Value → Nat
  | .slice _ n _ => n
  | _ => 0
theorem lenV_row {w : World} {v : Value} {vs : List Value} (h : Row1 w v vs) : lenV v = vs.length := by
  obtain ⟨a, cap, rfl, _⟩ := h
  rfl
theorem front_take (xr : List UInt8) (n : Nat) : ∃ c : List UInt8, c.length = Nat.min xr.length n ∧ xr = c ++ xr.drop c.length ∧ c = xr.take n := by
  refine ⟨xr.take n, by rw [List.length_take, Nat.min_comm], ?_, rfl⟩
  rcases Nat.le_total n xr.length with h | h
  · rw [List.length_take, Nat.min_eq_left h, List.take_append_drop]
  · rw [List.take_of_length_le h, List.drop_length, List.append_nil]

/-- The blocks ahead of Bo, but for M, are as they were. -/
def But (M Bo : Nat) (w w' : World) : Prop := ∀ k, k < Bo → k ≠ M → w'.heap[k]? = w.heap[k]?
theorem But.refl (M Bo : Nat) (w : World) : But M Bo w w := fun _ _ _ => rfl
theorem But.trans {M Bo : Nat} {a b c : World} (h : But M Bo a b) (g : But M Bo b c) : But M Bo a c := fun k hk hM => (g k hk hM).trans (h k hk hM)
theorem But.set {M Bo : Nat} {a b : World} (h : But M Bo a b) {p : Addr} (hp : p.block = M) (v : Value) : But M Bo a (b.setCell p v) := fun k hk hM => (heap_setCell_other b p k v (by rw [hp]; exact hM)).trans (h k hk hM)
theorem But.drew {M Bo : Nat} {a b : World} (h : But M Bo a b) : But M Bo a b.drew := h
theorem But.of_below {M Bo : Nat} {a b : World} (h : Below Bo a b) : But M Bo a b := fun k hk _ => h.block k hk

set_option maxRecDepth 100000 in
set_option maxHeartbeats 4000000 in
theorem move_cap (w0 w : World) (M Bo f K C : Nat) (ov bv : Value) (o l : List UInt8) (T : TypeId) (hM : Blk w M [ov, bv] 52) (ho : Row1 w0 ov (o.map bval)) (hl : Blk w Bo (l.map bval) T) (hlen : l.length = C) (hf : f < K) (hKC : K ≤ C) (hK : C ≤ 128)
    (he : Ext w0 w) (h0 : w0.heap.size ≤ M) (hMB : M < Bo) :
    Calls Tryd.prog 35 #[.pointer (some ⟨M, 0, none⟩), .slice (some ⟨Bo, f, none⟩) (K - f) (C - f)] w fun e w' =>
      ∃ ov' c, c = o.take (K - f) ∧ e = .returned (.int .i64 (c.length : Int)) ∧ Blk w' M [ov', bv] 52 ∧ Row1 w0 ov' ((o.drop c.length).map bval) ∧ Blk w' Bo ((l.take f ++ c ++ l.drop (f + c.length)).map bval) T ∧ Below M w w' ∧ But M Bo w w' := by
  obtain ⟨c, hcl, hcx, hct⟩ := front_take o (K - f)
  have hcm : c.length ≤ o.length := by rw [hcl]; exact Nat.min_le_left _ _
  have hcm2 : c.length ≤ K - f := by rw [hcl]; exact Nat.min_le_right _ _
  obtain ⟨v', hv', hrun⟩ := row_cut Tryd.underlying34 Tryd.sizeOf5 ho c.length (by rw [List.length_map]; exact hcm)
  rw [← List.map_drop] at hv'
  obtain ⟨a3, cap3, rfl, t1, t2, t3, t4⟩ := ho
  rw [List.length_map] at t1 hrun hM
  unfold maxLen at t2
  have HCS : Hid (0 < (c.map bval).length → some (⟨Bo, f, none⟩ : Addr) = some ⟨Bo, f, none⟩ ∧ ∃ ad, a3 = some ad ∧ ∀ (j : Nat) (v : Value), (c.map bval)[j]? = some v → w.cell? (ad.add j) = some v) := Lib.hid (fun h => by
    rw [List.length_map] at h
    obtain ⟨b3, off3, rfl, t5, t6⟩ := t4 (by intro e; have h := congrArg List.length e; rw [List.length_map] at h; simp only [List.length_nil] at h; omega)
    refine ⟨rfl, _, rfl, fun j v hj => ?_⟩
    have hjl : j < c.length := by
      rcases Nat.lt_or_ge j c.length with h | h
      · exact h
      · rw [List.getElem?_eq_none (by rw [List.length_map]; exact h)] at hj; cases hj
    have e := t6 j (by rw [List.length_map]; omega)
    have e2 : (o.map bval)[j]? = (c.map bval)[j]? := by rw [hcx, List.map_append, List.getElem?_append_left (by rw [List.length_map]; exact hjl)]
    rw [WideShapes.add_plain, ← hj, ← e2, ← e]
    exact he.cell (p := ⟨b3, off3 + j, none⟩) t5)
  have HBO := Lib.hid (hl : w.heap[Bo]? = some (.cells (l.map bval).toArray T (0, 0)))
  have HCL : Hid ((c.map bval).length = Nat.min o.length (K - f)) := Lib.hid (by rw [List.length_map, hcl])
  have HFT2 : Hid (f + (c.map bval).length ≤ (l.map bval).length) := Lib.hid (by rw [List.length_map, List.length_map, hlen]; omega)
  have HBR := Lib.hid (Below.refl M w)
  have HSP := Lib.hid (splice_map l c f)
  have HM := Lib.hid hM
  obtain ⟨a4, cap4, rfl, _⟩ := id hv'
  have HV := Lib.hid hv'
  generalize ((o.drop c.length).map bval).length = n4 at *
  have HCT := Lib.hid hct
  have c0 := hM.cell 0
  have f0 := hM.free 0
  simp only [List.getElem?_cons_zero, List.getElem?_cons_succ] at c0
  have hcm3 : (c.length : Int) ≤ (o.length : Int) := by omega
  have hc0 : (0 : Int) ≤ (c.length : Int) := Int.natCast_nonneg _
  have hMlt := hM.lt
  clear hM hl hv' hcx hct t3 t4 he hcl
  go_enter Tryd.func35, Tryd.ntmps35
  go_upto_region 2 with (refine wpList_copy_splice rfl (.tmp 6) (.tmp 10) 34 34 rfl 5 Tryd.underlying34 num_one (some ⟨Bo, f, none⟩) a3 (K - f) (C - f) o.length cap3 rfl rfl Bo f (l.map bval) T HBO.out (c.map bval) HCL.out HCS.out HFT2.out (bval_one _) Bo w (Below.refl _ w) (Nat.le_refl _) ?_; intro w5 hc5 hb5)
  have hg5 := hc5.out
  rw [HSP.out] at hg5
  have HM5 := Lib.hid (HM.out.same (hb5.block M (by omega)))
  have HO5 : Hid (Blk w5 Bo ((l.take f ++ c ++ l.drop (f + c.length)).map bval) T) := Lib.hid hg5
  have HE5 := Lib.hid (hb5.mono (Nat.le_of_lt hMB))
  have HU5 : Hid (But M Bo w w5) := Lib.hid (But.of_below hb5)
  have c0 := HM5.out.cell 0
  have f0 := HM5.out.free 0
  simp only [List.getElem?_cons_zero, List.getElem?_cons_succ] at c0
  clear hc5 hb5 hg5 HCS HBO HCL HFT2 HBR HSP HM
  go_wp2_with fail
  go_ret
  exact ⟨_, c, HCT.out, rfl, HM5.out.set 0 _, HV.out, HO5.out.far (by simp; omega) _, Below.setCell HE5.out (by simp) _, HU5.out.set rfl _⟩

end Go.Proofs.YtcadfccijeodbaaDoor

/- The walk of package pieces' Fill: a block is filled with what is still to be read. Each theorem names its own conditions. -/
namespace Go.Proofs.YtcadfccijeodbaaDoor
open Go.RowKit
set_option linter.unusedVariables false
set_option linter.unusedSimpArgs false

/-- A message in block M of which r is still to be read; its strings lie in w0. -/
def MsgSt (w0 w : World) (M : Nat) (r : List UInt8) : Prop :=
  ∃ (ov bv : Value) (o : List UInt8) (ls : List (List UInt8)), Blk w M [ov, bv] 52 ∧ Row1 w0 ov (o.map bval) ∧ RowB w0 bv ls ∧ r = o ++ ls.flatten
theorem MsgSt.same {w0 w w' : World} {M : Nat} {r : List UInt8} (h : MsgSt w0 w M r) (hb : w'.heap[M]? = w.heap[M]?) : MsgSt w0 w' M r := by
  obtain ⟨ov, bv, o, ls, h1, h2⟩ := h
  exact ⟨ov, bv, o, ls, h1.same hb, h2⟩
theorem MsgSt.lt {w0 w : World} {M : Nat} {r : List UInt8} (h : MsgSt w0 w M r) : M < w.heap.size := by
  obtain ⟨ov, bv, o, ls, h1, h2⟩ := h
  exact h1.lt
/-- What is left behind the first of a list of strings. -/
theorem rowB_tail {w : World} {v : Value} {l : List UInt8} {ls : List (List UInt8)} (h : RowB w v (l :: ls)) :
    ∃ (b off cap : Nat) (x v' : Value), v = .slice (some ⟨b, off, none⟩) (ls.length + 1) cap ∧ cap ≤ maxLen ∧ b < w.heap.size ∧ w.cell? ⟨b, off, none⟩ = some x ∧ Row1 w x (l.map bval) ∧ RowB w v' ls ∧
      ∀ w', (Instr.sliceAt 22 v (some (.int .i64 1)) none none).run Tryd.prog w' = .ok v' w' := by
  obtain ⟨vals, hr, hlen, hx⟩ := h
  match vals, hlen with
  | x :: vals, hlen =>
    obtain ⟨v', hv', hrun⟩ := row_cut Tryd.underlying22 Tryd.sizeOf34 hr 1 (by simp)
    obtain ⟨a, cap, rfl, h1, h2, h3, h4⟩ := hr
    obtain ⟨b, off, rfl, h5, h6⟩ := h4 (by simp)
    have hl : vals.length = ls.length := by simpa using hlen
    refine ⟨b, off, cap, x, v', by rw [List.length_cons, hl], h2, h5, by simpa using h6 0 (by simp), hx 0 x l rfl rfl, ⟨vals, hv', hl, fun i y k hy hk => hx (i + 1) y k (by simpa using hy) (by simpa using hk)⟩, hrun⟩
theorem rowB_form {w : World} {v : Value} {ls : List (List UInt8)} (h : RowB w v ls) : ∃ a cap, v = .slice a ls.length cap ∧ cap ≤ maxLen ∧ ls.length ≤ cap := by
  obtain ⟨vals, hr, hlen, hx⟩ := h
  obtain ⟨a, cap, rfl, h1, h2, _⟩ := hr
  exact ⟨a, cap, by rw [hlen], h2, by omega⟩
theorem row_slice {w : World} {v : Value} {l : List Value} (h : Row1 w v l) : ∃ a n cap, v = .slice a n cap := by
  obtain ⟨a, cap, rfl, _⟩ := h
  exact ⟨_, _, _, rfl⟩
def behindAt (w : World) (M : Nat) : Nat := ((w.cell? ⟨M, 1, none⟩).map lenV).getD 0
theorem cut_row (w : World) (Bo p K C : Nat) (hp : p < K) (hKC : K ≤ C) : (Instr.sliceAt 34 (.slice (some ⟨Bo, 0, none⟩) K C) (some (.int .i64 (p : Int))) none none).run Tryd.prog w = .ok (.slice (some ⟨Bo, p, none⟩) (K - p) (C - p)) w := by
  have e2 : Tryd.prog.elem 34 = 5 := by unfold Program.elem; rw [Tryd.underlying34]
  have ht2 : Tryd.prog.underlying 34 = some (.slice (Tryd.prog.elem 34)) := by rw [e2]; exact Tryd.underlying34
  rw [run_sliceAt_slice w 34 _ _ _ _ ht2, run_slice_l (ht := ht2) (kl := .i64) (l := (p : Int)) (h0 := by omega) (h1 := by omega), e2, Tryd.sizeOf5]
  simp [sliced, WideShapes.add_plain, show ¬ C = p by omega]

/-- What Fill owes. -/
def FillSaid (w0 w w' : World) (M Bo K : Nat) (r l : List UInt8) (T : TypeId) (e : Ending) : Prop :=
  ∃ c, c = r.take K ∧ e = .returned (.int .i64 (c.length : Int)) ∧ MsgSt w0 w' M (r.drop K) ∧ Blk w' Bo ((c ++ l.drop c.length).map bval) T ∧ Below M w w'
/-- One more string is moved. -/
theorem fill_next {r c l1 : List UInt8} {ls : List (List UInt8)} {c2 : List UInt8} {K : Nat} (h : r = c ++ ([] ++ (l1 :: ls).flatten)) (hc : c.length ≤ K) (h2 : c2 = l1.take (K - c.length)) :
    r = (c ++ c2) ++ (l1.drop c2.length ++ ls.flatten) ∧ (c ++ c2).length ≤ K ∧ ((c ++ c2).length < K → l1.drop c2.length = []) := by
  refine ⟨?_, ?_, ?_⟩
  · rw [h, List.nil_append, List.flatten_cons, List.append_assoc]
    congr 1
    rw [← List.append_assoc]
    congr 1
    rw [h2]
    rcases Nat.le_total (K - c.length) l1.length with h | h
    · rw [List.length_take, Nat.min_eq_left h, List.take_append_drop]
    · rw [List.take_of_length_le h, List.drop_length, List.append_nil]
  · rw [List.length_append, h2, List.length_take]; omega
  · intro h3
    rw [List.length_append, h2, List.length_take] at h3
    refine List.drop_eq_nil_of_le ?_
    rw [h2, List.length_take]
    omega
theorem fill_row (c c2 l : List UInt8) : ((c ++ l.drop c.length).take c.length ++ c2 ++ (c ++ l.drop c.length).drop (c.length + c2.length)) = (c ++ c2) ++ l.drop (c ++ c2).length := by
  rw [List.take_append_of_le_length (Nat.le_refl _), List.take_length, List.length_append]
  congr 1
  rw [List.drop_append, List.drop_eq_nil_of_le (by omega), List.nil_append, List.drop_drop]
  congr 1
  omega

set_option maxRecDepth 100000 in
set_option maxHeartbeats 8000000 in
theorem fill_cap (w0 w : World) (M Bo K C : Nat) (r l : List UInt8) (T : TypeId) (hS : MsgSt w0 w M r) (hl : Blk w Bo (l.map bval) T) (hlen : l.length = C) (hK0 : 0 < K) (hKC : K ≤ C) (hK : C ≤ 128)
    (he : Ext w0 w) (h0 : w0.heap.size ≤ M) (hMB : M < Bo) :
    Calls Tryd.prog 28 #[.pointer (some ⟨M, 0, none⟩), .slice (some ⟨Bo, 0, none⟩) K C] w fun e w' => FillSaid w0 w w' M Bo K r l T e ∧ But M Bo w w' := by
  obtain ⟨ov, bv, o, ls, hM, ho, hb, hr⟩ := hS
  have hmv := move_cap w0 w M Bo 0 K C ov bv o l T hM ho hl hlen hK0 hKC hK he h0 hMB
  rw [Nat.sub_zero, Nat.sub_zero] at hmv
  have HMV := Lib.hid hmv
  have HB := Lib.hid hb
  have HR := Lib.hid hr
  have HE0 := Lib.hid he
  have HL := Lib.hid hlen
  clear hmv hb hr hM ho hl he hlen
  go_enter Tryd.func28, Tryd.ntmps28
  go_wp2_with fail
  refine HMV.out.mono ?_
  rintro e w1 ⟨ov1, c, hc, rfl, hM, ho, hB, hbel, hbut⟩
  have HU1 := Lib.hid hbut
  have HM1 := Lib.hid hM
  have HO1 := Lib.hid ho
  have HB1 : Hid (Blk w1 Bo ((c ++ l.drop c.length).map bval) T) := Lib.hid (by simpa using hB)
  have HE1 := Lib.hid hbel
  have HC := Lib.hid hc
  clear hM ho hB hbel hc HMV hbut
  have HREL : Hid (r = c ++ (o.drop c.length ++ ls.flatten) ∧ c.length ≤ K ∧ (c.length < K → o.drop c.length = [])) := Lib.hid (by
    refine ⟨?_, ?_, ?_⟩
    · rw [HR.out, HC.out]
      rcases Nat.le_total K o.length with h | h
      · rw [List.length_take, Nat.min_eq_left h, ← List.append_assoc, List.take_append_drop]
      · rw [List.take_of_length_le h, List.drop_length, List.nil_append]
    · rw [HC.out, List.length_take]; exact Nat.min_le_left _ _
    · intro h
      rw [HC.out, List.length_take] at h
      refine List.drop_eq_nil_of_le ?_
      rw [HC.out, List.length_take]
      show o.length ≤ min K o.length
      omega)
  go_wp2_with fail
  go_loopw [5] (fun i5 wr => ∃ (c o : List UInt8) (ls : List (List UInt8)) (ov bv : Value), i5 = .int .i64 (c.length : Int) ∧ (r = c ++ (o ++ ls.flatten) ∧ c.length ≤ K ∧ (c.length < K → o = [])) ∧ Blk wr M [ov, bv] 52 ∧ Row1 w0 ov (o.map bval) ∧ RowB w0 bv ls ∧ Blk wr Bo ((c ++ l.drop c.length).map bval) T ∧ Below M w wr ∧ But M Bo w wr) (fun _ wr => behindAt wr M)
  case atStart => exact ⟨c, o.drop c.length, ls, ov1, bv, rfl, HREL.out, HM1.out, HO1.out, HB.out, HB1.out, HE1.out, HU1.out⟩
  case round =>
    clear HREL HM1 HO1 HB HB1 HE1 HC HR HU1
    obtain ⟨c, o, ls, ov, bv, rfl, ⟨hr, hcK, hco⟩, hM, ho, hb, hB, hbel, hbut⟩ := hrel
    have HBU := Lib.hid hbut
    clear hbut
    have c0 := hM.cell 0
    have c1 := hM.cell 1
    have f0 := hM.free 0
    have f1 := hM.free 1
    simp only [List.getElem?_cons_zero, List.getElem?_cons_succ] at c0 c1
    by_cases hlt : c.length < K
    · have ho2 := hco hlt
      subst ho2
      have k1 : (c.length : Int) < (K : Int) := by omega
      cases ls with
      | nil =>
        obtain ⟨ab, capb, rfl, g1, g2⟩ := rowB_form hb
        have HF : Hid (MsgSt w0 wr M (r.drop K)) := Lib.hid ⟨ov, _, [], [], hM, ho, hb, by rw [hr]; simpa using Nat.le_of_lt hlt⟩
        have HBX := Lib.hid hB
        have HBL := Lib.hid hbel
        have HT : Hid (c = r.take K) := Lib.hid (by rw [hr]; simp only [List.flatten_nil, List.append_nil]; exact (List.take_of_length_le hcK).symm)
        clear hM ho hb hB hbel hr hco
        simp only [List.length_nil] at c1
        go_wp2_with fail
        go_ret
        unfold FillSaid
        exact ⟨⟨c, HT.out, rfl, HF.out, HBX.out, HBL.out⟩, HBU.out⟩
      | cons l1 ls =>
        obtain ⟨b', off', capb, xv, bv', rfl, g1, g2, g3, g4, g5, g6⟩ := rowB_tail hb
        obtain ⟨xa, xn, xcap, hxe⟩ := row_slice g4
        subst hxe
        obtain ⟨ba, bcap, hbe, g7, g8⟩ := rowB_form g5
        subst hbe
        have cx : wr.cell? ⟨b', off', none⟩ = some (.slice xa xn xcap) := by
          rw [← g3]
          exact (Below.trans HE0.out (hbel.mono h0)).cell (p := ⟨b', off', none⟩) g2
        have hcut := cut_row wr Bo c.length K C hlt hKC
        have n0 : (0 : Int) ≤ (ls.length : Int) := Int.natCast_nonneg _
        have n1 : (0 : Int) < (ls.length : Int) + 1 := by omega
        have n2 : (0 : Int) < ((ls.length + 1 : Nat) : Int) := by omega
        have n3 : (1 : Int) ≤ ((ls.length + 1 : Nat) : Int) := by omega
        have HFT := Lib.hid (show behindAt wr M = ls.length + 1 by unfold behindAt; rw [c1]; rfl)
        have HR := Lib.hid hr
        have HM := Lib.hid hM
        have HBX := Lib.hid hB
        have HBL := Lib.hid hbel
        have HX := Lib.hid g4
        have HBV := Lib.hid g5
        unfold maxLen at g1 g7
        clear hM ho hb hB hbel hr hco g2 g3 g4 g5
        go_upto_region 3 with (fail)
        go_region
        have HM2 : Hid (Blk ((wr.setCell ⟨M, 0, none⟩ (.slice xa xn xcap)).setCell ⟨M, 1, none⟩ (.slice ba ls.length bcap)).drew M [.slice xa xn xcap, .slice ba ls.length bcap] 52) := Lib.hid (((HM.out.set 0 _).set 1 _).drewN 1)
        have HBX2 : Hid (Blk ((wr.setCell ⟨M, 0, none⟩ (.slice xa xn xcap)).setCell ⟨M, 1, none⟩ (.slice ba ls.length bcap)).drew Bo ((c ++ l.drop c.length).map bval) T) := Lib.hid (((HBX.out.far (by simp; omega) _).far (by simp; omega) _).drewN 1)
        have HBL2 : Hid (Below M w ((wr.setCell ⟨M, 0, none⟩ (.slice xa xn xcap)).setCell ⟨M, 1, none⟩ (.slice ba ls.length bcap)).drew) := Lib.hid ((Below.setCell (Below.setCell HBL.out (by simp) _) (by simp) _).drew)
        have HBU2 : Hid (But M Bo w ((wr.setCell ⟨M, 0, none⟩ (.slice xa xn xcap)).setCell ⟨M, 1, none⟩ (.slice ba ls.length bcap)).drew) := Lib.hid ((HBU.out.set rfl _).set rfl _).drew
        generalize ((wr.setCell ⟨M, 0, none⟩ (.slice xa xn xcap)).setCell ⟨M, 1, none⟩ (.slice ba ls.length bcap)).drew = w2 at *
        clear HM HBX HBL c0 c1 f0 f1 cx
        have HMV := Lib.hid (move_cap w0 w2 M Bo c.length K C _ _ l1 (c ++ l.drop c.length) T HM2.out HX.out HBX2.out (by simp [HL.out]; omega) hlt hKC hK (Below.trans HE0.out (HBL2.out.mono h0)) h0 hMB)
        have hcut := cut_row w2 Bo c.length K C hlt hKC
        go_wp2_with fail
        refine HMV.out.mono ?_
        rintro e w3 ⟨ov', c2, hc2, rfl, hM, ho, hB, hbel, hbut⟩
        have HBU3 := Lib.hid (HBU2.out.trans hbut)
        rw [fill_row] at hB
        have HN := Lib.hid (fill_next HR.out hcK hc2)
        have HM3 := Lib.hid hM
        have HO3 := Lib.hid ho
        have HB3 := Lib.hid hB
        have HBL3 := Lib.hid (Below.trans HBL2.out hbel)
        have hc2l : (c2.length : Int) ≤ 128 := by have := HN.out.2.1; rw [List.length_append] at this; omega
        have hc20 : (0 : Int) ≤ (c2.length : Int) := Int.natCast_nonneg _
        have c1 := HM3.out.cell 1
        simp only [List.getElem?_cons_zero, List.getElem?_cons_succ] at c1
        have HMS := Lib.hid (show behindAt w3 M = ls.length by unfold behindAt; rw [c1]; rfl)
        clear hM ho hB hbel hbut hc2 HMV HM2 HBX2 HBL2 c1
        go_wp2_with fail
        go_roundw
        case rel => exact ⟨c ++ c2, _, ls, _, _, by rw [List.length_append]; go_num, HN.out, HM3.out, HO3.out, HBV.out, HB3.out, HBL3.out, HBU3.out⟩
        case measure => rw [HMS.out, HFT.out]; omega
    · have hcK2 : c.length = K := by omega
      have hlt2 : ¬ (c.length : Int) < (K : Int) := by omega
      have hd2 : decide ((c.length : Int) < (K : Int)) = false := decide_eq_false hlt2
      have HF : Hid (MsgSt w0 wr M (r.drop K)) := Lib.hid ⟨ov, bv, o, ls, hM, ho, hb, by rw [hr, List.drop_append_of_le_length (by omega), List.drop_of_length_le (by omega), List.nil_append]⟩
      have HBX := Lib.hid hB
      have HBL := Lib.hid hbel
      have HT : Hid (c = r.take K) := Lib.hid (by rw [hr, List.take_append_of_le_length (by omega), List.take_of_length_le (by omega)])
      clear hM ho hb hB hbel hr hco hcK2
      go_wp2_with fail
      go_ret
      unfold FillSaid
      exact ⟨⟨c, HT.out, rfl, HF.out, HBX.out, HBL.out⟩, HBU.out⟩

theorem fill_any (w0 w : World) (M Bo K : Nat) (r l : List UInt8) (T : TypeId) (hS : MsgSt w0 w M r) (hl : Blk w Bo (l.map bval) T) (hlen : l.length = K) (hK0 : 0 < K) (hK : K ≤ 128)
    (he : Ext w0 w) (h0 : w0.heap.size ≤ M) (hMB : M < Bo) :
    Calls Tryd.prog 28 #[.pointer (some ⟨M, 0, none⟩), .slice (some ⟨Bo, 0, none⟩) K K] w fun e w' => FillSaid w0 w w' M Bo K r l T e :=
  (fill_cap w0 w M Bo K K r l T hS hl hlen hK0 (Nat.le_refl _) hK he h0 hMB).mono fun _ _ h => h.1

end Go.Proofs.YtcadfccijeodbaaDoor

/- The walk of package pieces' Of. Each theorem names its own conditions. -/
namespace Go.Proofs.YtcadfccijeodbaaDoor
open Go.RowKit
set_option linter.unusedVariables false
set_option linter.unusedSimpArgs false

theorem msg_size : (Tryd.prog.info? 52).map (·.size) = some (#[Value.slice none 0 0, Value.slice none 0 0]).size := by kernel_rfl

set_option maxRecDepth 100000 in
set_option maxHeartbeats 4000000 in
theorem of_any (a : Option Addr) (n cap : Nat) (w : World) :
    Calls Tryd.prog 27 #[.slice a n cap] w fun e w' => e = .returned (.agg #[.slice none 0 0, .slice a n cap]) ∧ Below w.heap.size w w' := by
  go_enter Tryd.func27, Tryd.ntmps27
  go_wp2_with fail
  refine bodyPost_ret (results_cell_row rfl _ _ w.heap.size _ _ _ _ rfl (Blk.made w [.slice none 0 0, .slice a n cap] 52) Tryd.underlying52 rfl msg_size) rfl ?_
  exact ⟨rfl, Ext.alloc w (.cells #[.slice none 0 0, .slice a n cap] 52)⟩

end Go.Proofs.YtcadfccijeodbaaDoor
