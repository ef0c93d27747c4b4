/- Texts that belong together, one behind the other. -/
import Derived.Test.YthafgicndklgfaaGreatDoorRows
import Derived.Test.YthafgicndklgfaaGreatDoorQz15
namespace Go.Proofs.YthafgicndklgfaaGreatDoor
set_option linter.unusedVariables false
set_option linter.unusedSimpArgs false
open Go.RowKit
section
open Go.ChangeShapes Go.WideShapes Go.ChangeAt Go.RowKit
section
variable {H : Type} {enc : TypeId × Value → H} {P : Program} {W : World} {sp : Nat → Bool}
theorem row1_of_trod {t e : TypeId} {fuel : Nat} {v : Value} {y : DataW H × List MemPlace} (ht : P.underlying t = some (.slice e)) (hc : P.cellsOf e = 1)
  (hf : DataW.trod enc P W 0 (fun _ => true) true fuel t [v] = some y) :
  ∃ vs : List Value, Row1 W v vs ∧ ∀ x ∈ vs, ∃ n y, DataW.trod enc P W 0 (fun _ => true) true n e [x] = some y := by
 rcases Deep.open_slice1 ht hc hf with ⟨hcs, _⟩ | ⟨a1, len1, cap1, m, n, V, D, Pl, hcs, hb, hl, hm, hmm, _, hx⟩
 ·obtain rfl : v = .slice none 0 0 := by simpa using hcs
  exact ⟨[], Row1.nil W, fun x hx => by cases hx⟩
 ·obtain rfl : v = .slice (some a1) len1 cap1 := by simpa using hcs
  simp only [if_true] at hmm
  refine ⟨(List.range len1).map V, ⟨some a1, cap1, by simp, by simpa using hl, hm, (fun e => by cases e), fun hne => ?_⟩, ?_⟩
  ·have h0 : 0 < len1 := by
    rcases Nat.eq_zero_or_pos len1 with h | h
    ·subst h; exact absurd rfl hne
    ·exact h
   obtain ⟨b, off, spot⟩ := a1
   have hspot : spot = none := by simpa [Addr.add] using World.cell?_spot ((hx 0 (by omega)).1)
   subst hspot
   refine ⟨b, off, rfl, ?_, fun i hi => ?_⟩
   ·have := (hx 0 (by omega)).1
    exact World.block_lt_of_cell? W _ this
   ·have hi' : i < len1 := by simpa using hi
    rw [← add_plain, (hx i (by omega)).1]
    simp [hi']
  ·intro x hxm
   obtain ⟨i, hi, rfl⟩ := List.mem_map.1 hxm
   have hi' : i < len1 := by simpa using hi
   exact ⟨n, _, (hx i (by omega)).2⟩
theorem bytes_of_trod {t e : TypeId} {fuel : Nat} {v : Value} {y : DataW H × List MemPlace} (ht : P.underlying t = some (.slice e)) (he : P.underlying e = some (.int .u8)) (hc : P.cellsOf e = 1)
  (hf : DataW.trod enc P W 0 (fun _ => true) true fuel t [v] = some y) : ∃ l : List UInt8, Row1 W v (l.map bval) := by
 obtain ⟨vs, h1, h2⟩ := row1_of_trod ht hc hf
 obtain ⟨l, rfl, _⟩ := list_of_all (f := bval) (p := fun _ => True) (fun x hx => by
  obtain ⟨n, y, h⟩ := h2 x hx
  obtain ⟨b, rfl, hw⟩ := cell_int he h
  have hb : 0 ≤ b ∧ b ≤ 255 := by simpa [Lit.wf, IntKind.min, IntKind.max, IntKind.signed, IntKind.bits] using hw
  refine ⟨UInt8.ofNat b.toNat, ?_, trivial⟩
  unfold bval
  congr 1
  rw [UInt8.toNat_ofNat']
  omega)
 exact ⟨l, h1⟩
theorem open_bytes {base0 : Nat} {r : Reach} {t e : TypeId} {v : Value} {d : DataW H} {ps : List MemPlace} (ht : P.underlying t = some (.slice e)) (he : P.underlying e = some (.int .u8)) (hc : P.cellsOf e = 1)
  (hval : Value.okWide P W r base0 t v) (hd : DataW.Trod enc P W 0 (fun _ => true) true t v d ps) : ∃ l : List UInt8, Row1 W v (l.map bval) := by
 obtain ⟨a, len, cap, rfl⟩ := okWide_slice ht hval
 obtain ⟨fuel, hf⟩ := hd
 exact bytes_of_trod (y := (d, ps)) ht he hc (by simpa [Value.cells] using hf)
end
end
section
open Go.ChangeShapes Go.WideShapes Go.ChangeAt Go.RowKit
section
variable {H : Type} {enc : TypeId × Value → H} {P : Program} {W : World}
theorem cells_of_arr {t e : TypeId} {n fuel : Nat} {cs : List Value} {x : DataW H × List MemPlace} (ht : P.underlying t = some (.array n e)) (he : P.underlying e = some (.int .u8)) (hc : P.cellsOf e = 1) (hct : P.cellsOf t = n)
  (h : DataW.trod enc P W 0 (fun _ => true) true fuel t cs = some x) : ∃ l : List UInt8, cs = l.map bval ∧ l.length = n := by
 obtain ⟨xs, m, _, _, hl, hxl, hx⟩ := DataW.trod_array ht h
 rw [hct] at hl
 have hone : ∀ c ∈ cs, ∃ n y, DataW.trod enc P W 0 (fun _ => true) true n e [c] = some y := fun c hcm => by
  obtain ⟨i, hi, rfl⟩ := List.getElem_of_mem hcm
  have := hx i (by omega)
  rw [hc, Nat.mul_one] at this
  refine ⟨m, xs[i]'(by omega), ?_⟩
  rw [List.getElem?_eq_getElem (by omega)] at this
  rw [← this]
  congr 1
  show [cs[i]] = (cs.drop i).take 1
  rw [List.drop_eq_getElem_cons hi]
  rfl
 obtain ⟨zs, hz, hw⟩ := list_of_all (f := Value.int .u8) (p := fun n => (Lit.int .u8 n).wf = true) (fun x hx => by
  obtain ⟨n, y, h⟩ := hone x hx
  exact cell_int he h)
 subst hz
 obtain ⟨l, e⟩ := bytes_of_ints hw
 refine ⟨l, e, ?_⟩
 have := congrArg List.length e
 rw [List.length_map, List.length_map] at this
 rw [List.length_map] at hl
 omega
theorem open_stop {base0 : Nat} {r : Reach} {t e : TypeId} {f0 f1 : Field} {v : Value} {d : DataW H} {ps : List MemPlace} (ht : P.underlying t = some (.struct #[f0, f1])) (hct : P.cellsOf t = 65)
  (h0 : P.underlying f0.type = some (.int .i64)) (o0 : f0.offset = 0) (c0 : P.cellsOf f0.type = 1) (h1 : P.underlying f1.type = some (.array 64 e)) (o1 : f1.offset = 1) (c1 : P.cellsOf f1.type = 64)
  (he : P.underlying e = some (.int .u8)) (hc : P.cellsOf e = 1) (hval : Value.okWide P W r base0 t v) (hd : DataW.Trod enc P W 0 (fun _ => true) true t v d ps) :
  ∃ (id : Int) (sig : List UInt8), v = .agg (stopC id sig).toArray ∧ sig.length = 64 ∧ (Lit.int .i64 id).wf = true := by
 obtain ⟨cs, rfl, hsz⟩ := okWide_struct ht hval
 rw [hct] at hsz
 obtain ⟨l⟩ := cs
 obtain ⟨fuel, hf⟩ := hd
 have hf2 : DataW.trod enc P W 0 (fun _ => true) true fuel t l = some (d, ps) := hf
 obtain ⟨y0, y1, n, _, _, g0, g1⟩ := trod_struct2 ht hf2
 rw [o0, c0] at g0
 rw [o1, c1] at g1
 have hl : l.length = 65 := by simpa using hsz
 match l, hl with
 | x :: rest, hl =>
  have hr : rest.length = 64 := by simpa using hl
  obtain ⟨id, hid, hw⟩ := cell_int h0 (show DataW.trod enc P W 0 (fun _ => true) true n f0.type [x] = some y0 from g0)
  have g1' : DataW.trod enc P W 0 (fun _ => true) true n f1.type rest = some y1 := by
   have e1 : ((x :: rest).drop 1).take 64 = rest := by
    rw [List.drop_one, List.tail_cons, List.take_of_length_le (by omega)]
   rw [e1] at g1
   exact g1
  obtain ⟨sig, hs, hsl⟩ := cells_of_arr h1 he hc c1 g1'
  subst hs
  subst hid
  exact ⟨id, sig, rfl, hsl, hw⟩
end
end
theorem readS_sig {b : List UInt8} {x : Int × List UInt8} (h : readS b = some x) : x.2.length = 64 ∧ smallB x.1 = true := by
 unfold readS at h
 split at h
 ·rename_i hc
  obtain rfl := Option.some.inj h
  exact ⟨by rw [List.length_drop, hc.1], hc.2.2⟩
 ·cases h
theorem rdG_length (b : List UInt8) : (rdG b).length = 64 := by
 unfold rdG
 cases h : readS b with
 | none => exact zbi
 | some x => exact (readS_sig h).1
end Go.Proofs.YthafgicndklgfaaGreatDoor
