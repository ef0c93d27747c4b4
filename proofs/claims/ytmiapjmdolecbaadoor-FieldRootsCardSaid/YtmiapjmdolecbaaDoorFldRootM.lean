/- The root that is found, in lists and numbers; small steps of its walk. Each theorem names its own conditions. -/
import Derived.Test.YtmiapjmdolecbaaDoorFldLaw0
import Derived.Test.YtmiapjmdolecbaaDoorFieldRoots
import Derived.Test.YtmiapjmdolecbaaDoorFldCode
import Derived.Laws.ResultCell
namespace Go.Proofs.YtmiapjmdolecbaaDoor
open Go.RowKit
set_option linter.unusedVariables false

/-- The root that is tried, whether it is one, and what is told. -/
def rootR (x : Int) : Int := if nb (x ^ pE * x ^ pE) = nb x then x ^ pE else x ^ pE * sm1
def rootB (x : Int) : Bool := decide (nb (rootR x * rootR x) = nb x)
def rootN (x : Int) : List UInt8 :=
  if rootB x then (if (decide (((nb (rootR x)).getD 0 0).toNat % 2 = 1)) then (nb (((leN zer : Nat) : Int) - ((leN (nb (rootR x)) : Nat) : Int))) else (nb (rootR x))) else zer
theorem rootB_true {x : Int} (h : nb (rootR x * rootR x) = nb x) : rootB x = true := decide_eq_true h
theorem rootB_false {x : Int} (h : ¬ nb (rootR x * rootR x) = nb x) : rootB x = false := decide_eq_false h
theorem rootN_true {x : Int} (h : nb (rootR x * rootR x) = nb x) : (if (decide (((nb (rootR x)).getD 0 0).toNat % 2 = 1)) then (nb (((leN zer : Nat) : Int) - ((leN (nb (rootR x)) : Nat) : Int))) else (nb (rootR x))) = rootN x := by
  unfold rootN
  rw [rootB_true h]
  rfl
theorem rootN_false {x : Int} (h : ¬ nb (rootR x * rootR x) = nb x) : rootN x = zer := by
  unfold rootN
  rw [rootB_false h]
  rfl
theorem rootB_true2 {x r : Int} (e : r = rootR x) (h : nb (r * r) = nb x) : rootB x = true := by subst e; exact rootB_true h
theorem rootB_false2 {x r : Int} (e : r = rootR x) (h : ¬ nb (r * r) = nb x) : rootB x = false := by subst e; exact rootB_false h
theorem rootN_true2 {x r : Int} (e : r = rootR x) (h : nb (r * r) = nb x) : (if (decide (((nb r).getD 0 0).toNat % 2 = 1)) then (nb (((leN zer : Nat) : Int) - ((leN (nb r) : Nat) : Int))) else (nb r)) = rootN x := by subst e; exact rootN_true h
theorem rootN_false2 {x r : Int} (e : r = rootR x) (h : ¬ nb (r * r) = nb x) : rootN x = zer := by subst e; exact rootN_false h
theorem vs_len (x y : L5) : x.vs.length = y.vs.length := rfl
theorem pick_length (b : Bool) (x y : Int) : (if b then (nb x) else (nb y)).length = 32 := by cases b <;> exact nb_length _
theorem rootN_length (x : Int) : (rootN x).length = 32 := by
  unfold rootN
  cases rootB x
  · exact zer_length
  · exact pick_length _ _ _
theorem zer_zero32 : zer.map bval = zero32 := by
  unfold zero32 zer ints
  rw [List.map_replicate, List.map_replicate]
  rfl
theorem zer_size : (Tryd.prog.info? 23).map (·.size) = some (zer.map bval).length := by rw [List.length_map, zer_length]; exact Tryd.arr23
theorem rootN_size (x : Int) : (Tryd.prog.info? 23).map (·.size) = some ((rootN x).map bval).length := by rw [List.length_map, rootN_length]; exact Tryd.arr23
theorem pick_size (b : Bool) (x y : Int) : (Tryd.prog.info? 23).map (·.size) = some ((if b then (nb x) else (nb y)).map bval).length := by rw [List.length_map, pick_length]; exact Tryd.arr23
theorem pick_len (b : Bool) (x y : Int) : ((if b then (nb x) else (nb y)).map bval).length = zero32.length := by rw [List.length_map, pick_length]; rfl

section
variable {P : Program}
theorem byte_odd {o : Oper} {a : Act} {ty rt : TypeId} {x y : Operand} {w : World} (n : Nat) (ho : o.op = .binOp .eql ty x y rt) (hx : a.eval x = .int .u8 ((n % 2 : Nat) : Int)) (hy : a.eval y = .int .u8 1) :
    (execOp a.eval o).run P w = .ok (.value (.bool (decide (n % 2 = 1)))) w := by
  have h : (((n % 2 : Nat) : Int) == 1) = decide (n % 2 = 1) := by
    rw [Bool.eq_iff_iff, beq_iff_eq, decide_eq_true_iff]
    omega
  unfold execOp
  simp only [ho, hx, hy]
  rw [← h]
  rfl
theorem result_row_tmp {w : World} {fn : Func} {p u : Tmp} {ty : TypeId} (h : fn.results = #[.cell p ty, .tmp u]) (tmps : Array Value) (c : Nat) (tb : TypeId) (cs : List Value) (d : TypeDesc)
    (hp : tmps.getD p undef = .pointer (some ⟨c, 0, none⟩)) (hb : Blk w c cs tb) (hu : P.underlying ty = some d) (hd : d.isRow = true) (hi : (P.info? ty).map (·.size) = some cs.length) :
    (results fn tmps).run P w = .ok (.tuple #[.agg cs.toArray, tmps.getD u undef]) w := by
  rw [results_cell_tmp h, hp]
  simp only [asAddr, Sem.run_pure, Result.andThen_ok, run_loadVar_mid w c 0 ty cs d hb.range hu hd hi]
end

end Go.Proofs.YtmiapjmdolecbaaDoor
