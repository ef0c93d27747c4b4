/- Arguments that are numbers of 32 bytes, bytes, bools, opened. Each theorem names its own conditions. -/
import Derived.Test.YtcadfccijeodbaaDoorLawKit
namespace Go.Proofs.YtcadfccijeodbaaDoor
open Go.ChangeShapes Go.WideShapes Go.ChangeAt Go.RowKit
set_option linter.unusedVariables false

section
variable {H : Type} {enc : TypeId × Value → H} {P : Program} {W : World}

theorem byte_of {b : Int} (h : (Lit.int .u8 b).wf = true) : ∃ n : UInt8, b = (n.toNat : Int) := by
  have hb : 0 ≤ b ∧ b ≤ 255 := by simpa [Lit.wf, IntKind.min, IntKind.max, IntKind.signed, IntKind.bits] using h
  refine ⟨UInt8.ofNat b.toNat, ?_⟩
  rw [UInt8.toNat_ofNat']
  omega
theorem bytes_of_ints : ∀ {zs : List Int}, (∀ n ∈ zs, (Lit.int .u8 n).wf = true) → ∃ l : List UInt8, zs.map (Value.int .u8) = l.map bval
  | [], _ => ⟨[], rfl⟩
  | z :: r, h => by
    obtain ⟨n, hn⟩ := byte_of (h z (List.mem_cons_self ..))
    obtain ⟨l, hl⟩ := bytes_of_ints (zs := r) (fun x hx => h x (List.mem_cons_of_mem _ hx))
    exact ⟨n :: l, by simp only [List.map_cons, hl, hn]; rfl⟩
/-- A number of 32 bytes. -/
theorem open_num {base0 : Nat} {r : Reach} {t e : TypeId} {v : Value} {d : DataW H} {ps : List MemPlace} (ht : P.underlying t = some (.array 32 e)) (he : P.underlying e = some (.int .u8)) (hc : P.cellsOf e = 1) (hct : P.cellsOf t = 32)
    (hval : Value.okWide P W r base0 t v) (hd : DataW.Trod enc P W 0 (fun _ => true) true t v d ps) : ∃ l : List UInt8, v = .agg (l.map bval).toArray ∧ l.length = 32 := by
  obtain ⟨zs, rfl, hl, hw⟩ := open_array_ints ht he hc hct hval hd
  obtain ⟨l, e⟩ := bytes_of_ints hw
  refine ⟨l, by rw [e], ?_⟩
  have := congrArg List.length e
  simpa [hl] using this.symm
/-- Bytes in an array of whatever length. -/
theorem open_numN {base0 : Nat} {r : Reach} {n : Nat} {t e : TypeId} {v : Value} {d : DataW H} {ps : List MemPlace} (ht : P.underlying t = some (.array n e)) (he : P.underlying e = some (.int .u8)) (hc : P.cellsOf e = 1) (hct : P.cellsOf t = n)
    (hval : Value.okWide P W r base0 t v) (hd : DataW.Trod enc P W 0 (fun _ => true) true t v d ps) : ∃ l : List UInt8, v = .agg (l.map bval).toArray ∧ l.length = n := by
  obtain ⟨zs, rfl, hl, hw⟩ := open_array_ints ht he hc hct hval hd
  obtain ⟨l, e⟩ := bytes_of_ints hw
  refine ⟨l, by rw [e], ?_⟩
  have := congrArg List.length e
  simpa [hl] using this.symm
theorem i64_both {n : Int} (h : (Lit.int .i64 n).wf = true) : -9223372036854775808 ≤ n ∧ n ≤ 9223372036854775807 := by simpa [Lit.wf, IntKind.min, IntKind.max, IntKind.signed, IntKind.bits] using h
theorem i64_lo {n : Int} (h : (Lit.int .i64 n).wf = true) : -9223372036854775808 ≤ n := (i64_both h).1
theorem i64_hi {n : Int} (h : (Lit.int .i64 n).wf = true) : n ≤ 9223372036854775807 := (i64_both h).2
/-- A byte. -/
theorem open_byte {base0 : Nat} {r : Reach} {t : TypeId} {v : Value} {d : DataW H} {ps : List MemPlace} (ht : P.underlying t = some (.int .u8))
    (hval : Value.okWide P W r base0 t v) (hd : DataW.Trod enc P W 0 (fun _ => true) true t v d ps) : ∃ n : UInt8, v = .int .u8 (n.toNat : Int) := by
  obtain ⟨z, rfl, _, _, hw⟩ := open_int ht hval hd
  obtain ⟨n, rfl⟩ := byte_of hw
  exact ⟨n, rfl⟩
end

end Go.Proofs.YtcadfccijeodbaaDoor
