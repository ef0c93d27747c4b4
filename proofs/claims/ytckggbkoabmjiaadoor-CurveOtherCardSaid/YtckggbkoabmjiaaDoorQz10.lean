/- Texts that belong together, one behind the other. -/
import Derived.WalkKit
import Derived.ProofKit
import Derived.Deep.Slices
import Derived.Laws.Cover2
import Derived.OpenShut
import Derived.WalkSpells
import Derived.WalkLawsBesides
import Derived.Lib.Hide
import Derived.Deep.QuietTactic
import Derived.BigQuiet
import Derived.Deep.RegionHeld3
import Derived.Deep.AppendLies
import Derived.OneCell
import Derived.Test.YtckggbkoabmjiaaDoorRows
import Derived.Test.YtckggbkoabmjiaaDoorQz01
namespace Go.Proofs.YtckggbkoabmjiaaDoor
set_option linter.unusedVariables false
set_option linter.unusedSimpArgs false
open Go.RowKit
section
open Go.ChangeShapes Go.WideShapes Go.ChangeAt Go.RowKit
section
variable {H : Type} {enc : TypeId × Value → H} {P : Program} {W : World} {sp : Nat → Bool}
theorem cell_int {e : TypeId} {k : IntKind} (he : P.underlying e = some (.int k)) {n : Nat} {x : Value} {y : DataW H × List MemPlace}
  (h : DataW.trod enc P W 0 sp true n e [x] = some y) : ∃ b, x = .int k b ∧ (Lit.int k b).wf = true := by
 cases n with
 | zero => simp [DataW.trod] at h
 | succ n =>
  unfold DataW.trod at h
  rw [he] at h
  cases x <;> simp at h
  rename_i k' b
  obtain ⟨⟨rfl, h2⟩, _⟩ := h
  exact ⟨b, rfl, h2⟩
theorem list_of_all {α : Type} {f : α → Value} {p : α → Prop} : ∀ {vs : List Value}, (∀ x ∈ vs, ∃ a, x = f a ∧ p a) → ∃ l : List α, vs = l.map f ∧ ∀ a ∈ l, p a
 | [], _ => ⟨[], rfl, fun a h => by cases h⟩
 | v :: vs, h => by
  obtain ⟨a, rfl, ha⟩ := h v (List.mem_cons_self ..)
  obtain ⟨l, rfl, hl⟩ := list_of_all (fun x hx => h x (List.mem_cons_of_mem _ hx))
  exact ⟨a :: l, rfl, fun b hb => by
   rcases List.mem_cons.1 hb with rfl | hb
   ·exact ha
   ·exact hl b hb⟩
theorem open_array {base0 : Nat} {r : Reach} {t e : TypeId} {len : Nat} {v : Value} {d : DataW H} {ps : List MemPlace} (ht : P.underlying t = some (.array len e)) (hc : P.cellsOf e = 1) (hct : P.cellsOf t = len)
  (hval : Value.okWide P W r base0 t v) (hd : DataW.Trod enc P W 0 (fun _ => true) true t v d ps) :
  ∃ vs : List Value, v = .agg vs.toArray ∧ vs.length = len ∧ ∀ x ∈ vs, ∃ n y, DataW.trod enc P W 0 (fun _ => true) true n e [x] = some y := by
 simp only [Value.okWide, ht] at hval
 obtain ⟨cs, rfl, hsz, _⟩ := hval
 rw [hct] at hsz
 obtain ⟨fuel, hf⟩ := hd
 obtain ⟨xs, m, _, _, hl, hxl, hx⟩ := DataW.trod_array ht hf
 obtain ⟨l⟩ := cs
 refine ⟨l, rfl, by simpa using hsz, fun x hxm => ?_⟩
 obtain ⟨i, hi, rfl⟩ := List.getElem_of_mem hxm
 have hlen : l.length = len := by simpa using hsz
 have hi' : i < len := by omega
 have := hx i hi'
 rw [hc, Nat.mul_one] at this
 refine ⟨m, xs[i]'(by omega), ?_⟩
 rw [List.getElem?_eq_getElem (by omega)] at this
 rw [← this]
 congr 1
 show [l[i]] = (l.drop i).take 1
 rw [List.drop_eq_getElem_cons hi]
 rfl
theorem open_array_ints {base0 : Nat} {r : Reach} {t e : TypeId} {len : Nat} {k : IntKind} {v : Value} {d : DataW H} {ps : List MemPlace} (ht : P.underlying t = some (.array len e)) (he : P.underlying e = some (.int k)) (hc : P.cellsOf e = 1) (hct : P.cellsOf t = len)
  (hval : Value.okWide P W r base0 t v) (hd : DataW.Trod enc P W 0 (fun _ => true) true t v d ps) :
  ∃ zs : List Int, v = .agg (zs.map (Value.int k)).toArray ∧ zs.length = len ∧ ∀ n ∈ zs, (Lit.int k n).wf = true := by
 obtain ⟨vs, rfl, hl, h2⟩ := open_array ht hc hct hval hd
 obtain ⟨l, rfl, hw⟩ := list_of_all (f := Value.int k) (p := fun n => (Lit.int k n).wf = true) (fun x hx => by
  obtain ⟨n, y, h⟩ := h2 x hx
  exact cell_int he h)
 exact ⟨l, rfl, by simpa using hl, hw⟩
end
end
section
open Go.ChangeShapes Go.WideShapes Go.ChangeAt Go.RowKit
section
variable {H : Type} {enc : TypeId × Value → H} {P : Program} {W : World}
theorem bytes_of_ints : ∀ {zs : List Int}, (∀ n ∈ zs, (Lit.int .u8 n).wf = true) → ∃ l : List UInt8, zs.map (Value.int .u8) = l.map bval
 | [], _ => ⟨[], rfl⟩
 | z :: r, h => by
  obtain ⟨n, hn⟩ := byte_of (h z (List.mem_cons_self ..))
  obtain ⟨l, hl⟩ := bytes_of_ints (zs := r) (fun x hx => h x (List.mem_cons_of_mem _ hx))
  exact ⟨n :: l, by simp only [List.map_cons, hl, hn]; rfl⟩
theorem open_num {base0 : Nat} {r : Reach} {t e : TypeId} {v : Value} {d : DataW H} {ps : List MemPlace} (ht : P.underlying t = some (.array 32 e)) (he : P.underlying e = some (.int .u8)) (hc : P.cellsOf e = 1) (hct : P.cellsOf t = 32)
  (hval : Value.okWide P W r base0 t v) (hd : DataW.Trod enc P W 0 (fun _ => true) true t v d ps) : ∃ l : List UInt8, v = .agg (l.map bval).toArray ∧ l.length = 32 := by
 obtain ⟨zs, rfl, hl, hw⟩ := open_array_ints ht he hc hct hval hd
 obtain ⟨l, e⟩ := bytes_of_ints hw
 refine ⟨l, by rw [e], ?_⟩
 have := congrArg List.length e
 simpa [hl] using this.symm
end
end
end Go.Proofs.YtckggbkoabmjiaaDoor
