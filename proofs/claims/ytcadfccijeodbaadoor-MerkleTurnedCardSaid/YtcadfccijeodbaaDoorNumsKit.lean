/- Slices whose elements are 32 bytes each (api.Num), read as lists of lists. Nothing here speaks of a program. Each theorem names its own conditions. -/
import Derived.Test.YtcadfccijeodbaaDoorRowCut
import Derived.Test.YtcadfccijeodbaaDoorLawKit
import Derived.Test.YtcadfccijeodbaaDoorFldOpen
import Derived.Deep.MidRow
namespace Go.Proofs.YtcadfccijeodbaaDoor
open Go.ChangeShapes Go.WideShapes Go.RowKit
set_option linter.unusedVariables false

def Nums (ps : List (List UInt8)) : Prop := ∀ p ∈ ps, p.length = 32
theorem Nums.nil : Nums [] := fun p h => by cases h
theorem Nums.append {a b : List (List UInt8)} (ha : Nums a) (hb : Nums b) : Nums (a ++ b) := fun p h => (List.mem_append.1 h).elim (ha p) (hb p)
theorem Nums.one {p : List UInt8} (h : p.length = 32) : Nums [p] := fun q hq => by rw [List.mem_singleton.1 hq]; exact h
theorem Nums.take {a : List (List UInt8)} (ha : Nums a) (n : Nat) : Nums (a.take n) := fun p h => ha p (List.mem_of_mem_take h)
theorem Nums.dropLast {a : List (List UInt8)} (ha : Nums a) : Nums a.dropLast := fun p h => ha p (List.dropLast_subset a h)
theorem Nums.getD {a : List (List UInt8)} (ha : Nums a) {i : Nat} (hi : i < a.length) : (a.getD i []).length = 32 := by
  rw [List.getD_eq_getElem?_getD, List.getElem?_eq_getElem hi]
  exact ha _ (List.getElem_mem hi)
theorem Nums.set {a : List (List UInt8)} (ha : Nums a) (i : Nat) {p : List UInt8} (h : p.length = 32) : Nums (a.set i p) := fun q hq => (List.mem_or_eq_of_mem_set hq).elim (ha q) (fun e => by rw [e]; exact h)
theorem flat_length : ∀ {ps : List (List UInt8)}, Nums ps → ps.flatten.length = 32 * ps.length
  | [], _ => rfl
  | p :: ps, h => by
    rw [List.flatten_cons, List.length_append, List.length_cons, h p (List.mem_cons_self ..), flat_length (fun q hq => h q (List.mem_cons_of_mem _ hq))]
    omega
theorem flat_get : ∀ {ps : List (List UInt8)}, Nums ps → ∀ {i j : Nat}, i < ps.length → j < 32 → ps.flatten[32 * i + j]? = (ps.getD i [])[j]?
  | [], _, i, j, hi, _ => by simp at hi
  | p :: ps, h, 0, j, _, hj => by
    have hp := h p (List.mem_cons_self ..)
    rw [List.flatten_cons, Nat.mul_zero, Nat.zero_add, List.getElem?_append_left (by omega)]
    rfl
  | p :: ps, h, i + 1, j, hi, hj => by
    have hp := h p (List.mem_cons_self ..)
    rw [List.flatten_cons, List.getElem?_append_right (by omega), hp, show 32 * (i + 1) + j - 32 = 32 * i + j by omega,
      flat_get (fun q hq => h q (List.mem_cons_of_mem _ hq)) (by simpa using hi) hj]
    rfl
theorem flat_take : ∀ {ps : List (List UInt8)}, Nums ps → ∀ (n : Nat), (ps.take n).flatten = ps.flatten.take (32 * n)
  | [], _, n => by simp
  | p :: ps, h, 0 => by simp
  | p :: ps, h, n + 1 => by
    have hp := h p (List.mem_cons_self ..)
    rw [List.take_succ_cons, List.flatten_cons, List.flatten_cons, flat_take (fun q hq => h q (List.mem_cons_of_mem _ hq)) n, List.take_append, hp,
      show 32 * (n + 1) - 32 = 32 * n by omega, List.take_of_length_le (l := p) (by omega)]
theorem flat_snoc (ps : List (List UInt8)) (p : List UInt8) : (ps ++ [p]).flatten = ps.flatten ++ p := by simp

/-- A slice of numbers reads as the list of them. -/
def RowN (w : World) (v : Value) (ps : List (List UInt8)) : Prop :=
  Nums ps ∧ ∃ a cap, v = .slice a ps.length cap ∧ ps.length ≤ cap ∧ cap ≤ maxLen ∧ (a = none → cap = 0) ∧ (ps ≠ [] → ∃ b off, a = some ⟨b, off, none⟩ ∧ b < w.heap.size ∧ ∀ i, i < 32 * ps.length → w.cell? ⟨b, off + i, none⟩ = (ps.flatten.map bval)[i]?)

section
variable {P : Program} {w w' : World} {v : Value} {ps : List (List UInt8)}
theorem RowN.nums (h : RowN w v ps) : Nums ps := h.1
theorem RowN.nil (w : World) : RowN w (.slice none 0 0) [] := ⟨Nums.nil, none, 0, rfl, Nat.le_refl _, Nat.zero_le _, fun _ => rfl, fun h => absurd rfl h⟩
theorem RowN.same (h : RowN w v ps) (hs : w.heap.size ≤ w'.heap.size) (hc : ∀ p : Addr, v.ownBlock = some p.block → p.block < w.heap.size → w'.cell? p = w.cell? p) : RowN w' v ps := by
  obtain ⟨h0, a, cap, rfl, h1, h2, h3, h4⟩ := h
  refine ⟨h0, a, cap, rfl, h1, h2, h3, fun hne => ?_⟩
  obtain ⟨b, off, rfl, hb, hcell⟩ := h4 hne
  exact ⟨b, off, rfl, Nat.lt_of_lt_of_le hb hs, fun i hi => (hc ⟨b, off + i, none⟩ rfl hb).trans (hcell i hi)⟩
theorem RowN.below (h : RowN w v ps) (hb : Below w.heap.size w w') : RowN w' v ps := h.same hb.size fun _ _ hp => hb.cell hp
theorem RowN.grown {row : Option Nat} (h : RowN w v ps) (hg : w.grownBy w' row) (hne : ∀ k, row = some k → v.ownBlock ≠ some k) : RowN w' v ps :=
  h.same hg.size fun p hp hlt => hg.cell_far p hlt fun e => hne p.block e.symm hp
theorem RowN.form (h : RowN w v ps) : ∃ a cap, v = .slice a ps.length cap ∧ ps.length ≤ cap ∧ cap ≤ maxLen := by
  obtain ⟨_, a, cap, h1, h2, h3, _⟩ := h
  exact ⟨a, cap, h1, h2, h3⟩
/-- A row of the call's own reads as its numbers. -/
theorem RowN.of_own {base : Nat} {e : TypeId} {n : Nat} {vs : List Value} (h : w.ownsRow base e 32 v n vs) (hp : Nums ps) (hn : n = ps.length) (hv : vs = ps.flatten.map bval) : RowN w v ps := by
  subst hv; subst hn
  have hl : (ps.flatten.map bval).length = 32 * ps.length := by rw [List.length_map, flat_length hp]
  rcases h.2 with ⟨rfl, h0⟩ | ⟨g, cap, cur, rfl, hb, hg, h1, h2, _, _⟩
  · have : ps = [] := List.eq_nil_of_length_eq_zero h0
    subst this
    exact RowN.nil w
  · refine ⟨hp, some ⟨g, 0, none⟩, cap, rfl, by omega, h2, (fun e => by cases e), fun _ => ⟨g, 0, rfl, (h.lt g rfl).2, fun i hi => ?_⟩⟩
    rw [Nat.zero_add]
    exact h.cellAt i (by omega)
/-- Where an element lies. -/
theorem RowN.elem {a : Option Addr} {n cap : Nat} (h : RowN w (.slice a n cap) ps) (hne : 0 < ps.length) : ∃ b off, a = some ⟨b, off, none⟩ ∧ b < w.heap.size ∧ ∀ i, i < ps.length → w.rangeAt b (off + i * 32) ((ps.getD i []).map bval) := by
  obtain ⟨h0, a', cap', he, h1, h2, h3, h4⟩ := h
  injection he with e1 e2 e3
  subst e1
  obtain ⟨b, off, ha, hb, hc⟩ := h4 (by rintro rfl; simp at hne)
  refine ⟨b, off, ha, hb, fun i hi j v hj => ?_⟩
  have hl : (ps.getD i []).length = 32 := Nums.getD h0 hi
  have hj2 : j < 32 := by
    rcases Nat.lt_or_ge j 32 with h' | h'
    · exact h'
    · rw [List.getElem?_eq_none (by rw [List.length_map]; omega)] at hj; cases hj
  rw [Nat.add_assoc, Nat.mul_comm i 32, hc (32 * i + j) (by omega), List.getElem?_map, flat_get h0 hi hj2, ← hj, List.getElem?_map]
/-- s[:k]. -/
theorem RowN.upto {t e : TypeId} (ht : P.underlying t = some (.slice e)) (hs : ∀ w, (sizeOf e).run P w = .ok 32 w) (h : RowN w v ps) (k : Nat) (hk : k ≤ ps.length) :
    ∃ v', RowN w v' (ps.take k) ∧ ∀ w', (Instr.sliceAt t v none (some (.int .i64 (k : Int))) none).run P w' = .ok v' w' := by
  obtain ⟨h0, a, cap, rfl, h1, h2, h3, h4⟩ := h
  have e2 : P.elem t = e := by unfold Program.elem; rw [ht]
  have ht2 : P.underlying t = some (.slice (P.elem t)) := by rw [e2]; exact ht
  have hl : (ps.take k).length = k := by rw [List.length_take]; omega
  refine ⟨sliced a 0 k cap 32, ?_, fun w' => ?_⟩
  · unfold sliced
    by_cases hc : cap = 0
    · rw [if_pos hc]
      refine ⟨h0.take k, a, cap - 0, by rw [hl]; rfl, by rw [hl]; omega, by omega, fun e => by have := h3 e; omega, fun hne => ?_⟩
      exfalso
      exact hne (List.eq_nil_of_length_eq_zero (by omega))
    · rw [if_neg hc]
      refine ⟨h0.take k, a.map (·.add (0 * 32)), cap - 0, by rw [hl]; rfl, by rw [hl]; omega, by omega, fun e => ?_, fun hne => ?_⟩
      · cases a with
        | none => have := h3 rfl; omega
        | some a => cases e
      · obtain ⟨b, off, rfl, g1, g2⟩ := h4 (by rintro rfl; simp at hne)
        refine ⟨b, off, by rw [Option.map_some, WideShapes.add_plain, Nat.zero_mul, Nat.add_zero], g1, fun i hi => ?_⟩
        rw [hl] at hi
        rw [g2 i (by omega), List.getElem?_map, List.getElem?_map, flat_take h0, List.getElem?_take, if_pos hi]
  · rw [run_sliceAt_slice w' t _ _ _ _ ht2, run_slice_h (ht := ht2) (kh := .i64) (h := (k : Int)) (h0 := by omega) (h2 := by omega), e2, hs]
    simp
end

section
variable {H : Type} {enc : TypeId × Value → H} {P : Program} {W : World}
theorem cells_of_num {t e : TypeId} {fuel : Nat} {cs : List Value} {x : DataW H × List MemPlace} (ht : P.underlying t = some (.array 32 e)) (he : P.underlying e = some (.int .u8)) (hc : P.cellsOf e = 1) (hct : P.cellsOf t = 32)
    (h : DataW.trod enc P W 0 (fun _ => true) true fuel t cs = some x) : ∃ l : List UInt8, cs = l.map bval ∧ l.length = 32 := by
  obtain ⟨xs, m, _, _, hl, hxl, hx⟩ := DataW.trod_array ht h
  rw [hct] at hl
  have hone : ∀ c ∈ cs, ∃ n y, DataW.trod enc P W 0 (fun _ => true) true n e [c] = some y := fun c hcm => by
    obtain ⟨i, hi, rfl⟩ := List.getElem_of_mem hcm
    have := hx i (by omega)
    rw [hc, Nat.mul_one] at this
    refine ⟨m, xs[i]'(by omega), ?_⟩
    rw [List.getElem?_eq_getElem (by omega)] at this
    rw [← this]
    congr 1
    show [cs[i]] = (cs.drop i).take 1
    rw [List.drop_eq_getElem_cons hi]
    rfl
  obtain ⟨zs, hz, hw⟩ := list_of_all (f := Value.int .u8) (p := fun n => (Lit.int .u8 n).wf = true) (fun x hx => by
    obtain ⟨n, y, h⟩ := hone x hx
    exact cell_int he h)
  subst hz
  obtain ⟨l, e⟩ := bytes_of_ints hw
  refine ⟨l, e, ?_⟩
  have := congrArg List.length e
  rw [List.length_map, List.length_map] at this
  rw [List.length_map] at hl
  omega
/-- A slice of numbers, opened. -/
theorem open_nums {base0 : Nat} {r : Reach} {t q e : TypeId} {v : Value} {d : DataW H} {ps : List MemPlace} (ht : P.underlying t = some (.slice q)) (hq : P.underlying q = some (.array 32 e)) (he : P.underlying e = some (.int .u8)) (hc : P.cellsOf e = 1) (hcq : P.cellsOf q = 32)
    (hval : Value.okWide P W r base0 t v) (hd : DataW.Trod enc P W 0 (fun _ => true) true t v d ps) : ∃ l : List (List UInt8), RowN W v l := by
  obtain ⟨a, len, cap, rfl⟩ := okWide_slice ht hval
  obtain ⟨fuel, hf⟩ := hd
  have hf2 : DataW.trod enc P W 0 (fun _ => true) true fuel t [.slice a len cap] = some (d, ps) := by simpa [Value.cells] using hf
  rcases Deep.open_slice ht hf2 with ⟨hcs, _⟩ | ⟨a1, len1, cap1, m, n, D, Pl, hcs, hb, hl, hm, hmm, _, hx⟩
  · have hv : (Value.slice a len cap) = .slice none 0 0 := by simpa using hcs
    rw [hv]
    exact ⟨[], RowN.nil W⟩
  · have hv : (Value.slice a len cap) = .slice (some a1) len1 cap1 := by simpa using hcs
    rw [hv]
    simp only [if_true] at hmm
    have hspot : 0 < len1 → a1.spot = none := fun h0 => by
      obtain ⟨cs', h1, h2⟩ := hx 0 (by omega)
      rw [hcq] at h1
      obtain ⟨l, rfl, hll⟩ := cells_of_num hq he hc hcq h2
      obtain ⟨_, _, h3⟩ := World.cells?_some h1
      have h4 := h3 0 (by omega)
      rw [List.getElem?_eq_getElem (by rw [List.length_map]; omega)] at h4
      simpa [Addr.add] using World.cell?_spot h4
    obtain ⟨b, off, spot⟩ := a1
    have hel : ∀ i, i < len1 → ∃ l : List UInt8, l.length = 32 ∧ ∀ j, j < 32 → W.cell? ⟨b, off + (i * 32 + j), none⟩ = (l.map bval)[j]? := fun i hi => by
      obtain ⟨cs', h1, h2⟩ := hx i (by omega)
      rw [hcq] at h1
      obtain ⟨l, rfl, hll⟩ := cells_of_num hq he hc hcq h2
      obtain ⟨_, _, h3⟩ := World.cells?_some h1
      obtain rfl : spot = none := hspot (by omega)
      exact ⟨l, hll, fun j hj => by rw [← h3 j hj, WideShapes.add_plain, WideShapes.add_plain, Nat.add_assoc]⟩
    obtain ⟨f, hf⟩ := Deep.choose_lt hel
    have hps : ∀ i, i < len1 → ((List.range len1).map f).getD i [] = f i := fun i hi => by
      rw [List.getD_eq_getElem?_getD, List.getElem?_map, List.getElem?_range hi]
      rfl
    have hnum : Nums ((List.range len1).map f) := fun p hp => by
      obtain ⟨i, hi, rfl⟩ := List.mem_map.1 hp
      exact (hf i (by simpa using hi)).1
    refine ⟨(List.range len1).map f, hnum, some ⟨b, off, spot⟩, cap1, by simp, by simpa using hl, hm, (fun e => by cases e), fun hne => ?_⟩
    have h0 : 0 < len1 := by
      rcases Nat.eq_zero_or_pos len1 with h | h
      · subst h; exact absurd rfl hne
      · exact h
    have hc0 := (hf 0 h0).2 0 (by omega)
    rw [List.getElem?_eq_getElem (by rw [List.length_map, (hf 0 h0).1]; omega)] at hc0
    obtain rfl : spot = none := hspot h0
    refine ⟨b, off, rfl, World.block_lt_of_cell? W _ hc0, fun i hi => ?_⟩
    have hlen : ((List.range len1).map f).length = len1 := by simp
    rw [hlen] at hi
    have hd1 : i / 32 < len1 := by omega
    have hd2 : i % 32 < 32 := Nat.mod_lt _ (by omega)
    have hi3 : 32 * (i / 32) + i % 32 = i := by omega
    have h5 := flat_get hnum (i := i / 32) (j := i % 32) (by rw [hlen]; exact hd1) hd2
    rw [hi3, hps _ hd1] at h5
    rw [List.getElem?_map, h5, ← List.getElem?_map, ← (hf (i / 32) hd1).2 (i % 32) hd2]
    congr 3
    omega
end

end Go.Proofs.YtcadfccijeodbaaDoor
