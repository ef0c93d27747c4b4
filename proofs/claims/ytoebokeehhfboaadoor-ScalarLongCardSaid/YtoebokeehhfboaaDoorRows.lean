/-
  NARROWER THAN 'FOR EVERY INPUT', by the rows' own cells (each row's printed sentence says how): ScalarReduces: laid · ScalarSums: laid · ScalarRules: laid · ScalarShifts: laid · ScalarLong: laid.
  DERIVED. THE GIVEN ROWS OF THIS SEAT. 5 by the template 'for every input the law returns true; each argument reads behind the call as it read before'; 0 by the template 'total and deterministic' (their statements: YtoebokeehhfboaaDoorTotals.lean).
  GIVEN WITH THE SEED: the statements are not yours to turn. If you find one false, say at which input.
  Laid BY PROGRAM, IN A SANDBOX (cutbox-rows.mjs): the forced cells as the released guide's own fill.sh prints them over the translation 3bb5951d5dea1898… (all of the seat's roots in one cut). By AI agents, Wed Nov 11 2026. No macro, syntax, notation, axiom, sorry.
-/
import Derived.Test.YtoebokeehhfboaaDoorChecked
import GoSem.Claim
import GoSem.ClaimJoined
import GoSem.ClaimMapViews
import Derived.JoinedTies
import Derived.KernelRfl
namespace Go.Proofs.YtoebokeehhfboaaDoor
/- THE CELL 'sum', in the pinned program and in every row, IS THE sha256 OF THE DUMP (.gsa) THAT YtoebokeehhfboaaDoorProg.lean LOADS. Nothing in Lean hashes anything: it is a label: what it is worth is what the hold of that sum in a sandbox is worth. -/
noncomputable def Tryd.pinned : Pinned := { name := "ytoebokeehhfboaadoor", sum := "3bb5951d5dea1898e98ae7b3da9cb6bab07eea670dd5b901267b62196da35eb9", checked := Tryd.checked }
namespace Rows
def none {H : Type} : Left H := { results := [], args := [] }

/- WHAT THE LISTED PACKAGE-LEVEL VARIABLES READ AS WHEN THE CALL BEGINS. Each datum BY PROGRAM (the guide's laid-datum.mjs) off the statement by which the dump's own 'gosem.cut.vars' lays the variable. In a bare row this is a premise. The card (YtoebokeehhfboaaDoorCards.lean) ties it to the program's text. -/
def laid_portcullis_portcullisref3_order {H : Type} : DataW H := .agg [.lit (.int .i64 237), .lit (.int .i64 211), .lit (.int .i64 245), .lit (.int .i64 92), .lit (.int .i64 26), .lit (.int .i64 99), .lit (.int .i64 18), .lit (.int .i64 88), .lit (.int .i64 214), .lit (.int .i64 156), .lit (.int .i64 247), .lit (.int .i64 162), .lit (.int .i64 222), .lit (.int .i64 249), .lit (.int .i64 222), .lit (.int .i64 20), .lit (.int .i64 0), .lit (.int .i64 0), .lit (.int .i64 0), .lit (.int .i64 0), .lit (.int .i64 0), .lit (.int .i64 0), .lit (.int .i64 0), .lit (.int .i64 0), .lit (.int .i64 0), .lit (.int .i64 0), .lit (.int .i64 0), .lit (.int .i64 0), .lit (.int .i64 0), .lit (.int .i64 0), .lit (.int .i64 0), .lit (.int .i64 16)]
def laid_portcullis_scalar_tail {H : Type} : DataW H := .agg [.lit (.int .i64 217437165), .lit (.int .i64 19280293), .lit (.int .i64 127719000), .lit (.int .i64 262007343), .lit (.int .i64 5342)]

/-- 'portcullislaw4.ScalarReduces': WHATEVER THE INPUT: true; the input reads as it did. -/
def scalarReducesSpec : ChangeSpec := { name := "scalarReduces", fn := fun _ => fun
  | [d] => { results := [.lit (.bool true)], args := [d] }
  | _ => none }
def scalarReducesRow : OpenClaim := { program := "ytoebokeehhfboaadoor", sum := "3bb5951d5dea1898e98ae7b3da9cb6bab07eea670dd5b901267b62196da35eb9", func := "portcullis/portcullislaw4.ScalarReduces", spec := "scalarReduces", named := ["portcullis/scalar.tail", "portcullis/portcullisref3.order"], apart := false, laid := [("portcullis/portcullisref3.order", laid_portcullis_portcullisref3_order), ("portcullis/scalar.tail", laid_portcullis_scalar_tail)] }
def ScalarReducesSaid : Prop := scalarReducesRow.holds Tryd.pinned (OpenSpec.ofChange scalarReducesSpec)

/-- ITS FALSE NEIGHBOUR: 'it returns false'. Refute it at one input. -/
def scalarReducesWrong : ChangeSpec := { name := "scalarReduces", fn := fun _ => fun
  | [d] => { results := [.lit (.bool false)], args := [d] }
  | _ => none }
def ScalarReducesWrongFalsely : Prop := scalarReducesRow.holds Tryd.pinned (OpenSpec.ofChange scalarReducesWrong)

/-- 'portcullislaw4.ScalarSums': WHATEVER THE INPUT: true; the input reads as it did. -/
def scalarSumsSpec : ChangeSpec := { name := "scalarSums", fn := fun _ => fun
  | [d1, d2] => { results := [.lit (.bool true)], args := [d1, d2] }
  | _ => none }
def scalarSumsRow : OpenClaim := { program := "ytoebokeehhfboaadoor", sum := "3bb5951d5dea1898e98ae7b3da9cb6bab07eea670dd5b901267b62196da35eb9", func := "portcullis/portcullislaw4.ScalarSums", spec := "scalarSums", named := ["portcullis/scalar.tail", "portcullis/portcullisref3.order"], apart := false, laid := [("portcullis/portcullisref3.order", laid_portcullis_portcullisref3_order), ("portcullis/scalar.tail", laid_portcullis_scalar_tail)] }
def ScalarSumsSaid : Prop := scalarSumsRow.holds Tryd.pinned (OpenSpec.ofChange scalarSumsSpec)

/-- ITS FALSE NEIGHBOUR: 'it returns false'. Refute it at one input. -/
def scalarSumsWrong : ChangeSpec := { name := "scalarSums", fn := fun _ => fun
  | [d1, d2] => { results := [.lit (.bool false)], args := [d1, d2] }
  | _ => none }
def ScalarSumsWrongFalsely : Prop := scalarSumsRow.holds Tryd.pinned (OpenSpec.ofChange scalarSumsWrong)

/-- 'portcullislaw4.ScalarRules': WHATEVER THE INPUT: true; the input reads as it did. -/
def scalarRulesSpec : ChangeSpec := { name := "scalarRules", fn := fun _ => fun
  | [d1, d2, d3] => { results := [.lit (.bool true)], args := [d1, d2, d3] }
  | _ => none }
def scalarRulesRow : OpenClaim := { program := "ytoebokeehhfboaadoor", sum := "3bb5951d5dea1898e98ae7b3da9cb6bab07eea670dd5b901267b62196da35eb9", func := "portcullis/portcullislaw4.ScalarRules", spec := "scalarRules", named := ["portcullis/scalar.tail"], apart := false, laid := [("portcullis/scalar.tail", laid_portcullis_scalar_tail)] }
def ScalarRulesSaid : Prop := scalarRulesRow.holds Tryd.pinned (OpenSpec.ofChange scalarRulesSpec)

/-- ITS FALSE NEIGHBOUR: 'it returns false'. Refute it at one input. -/
def scalarRulesWrong : ChangeSpec := { name := "scalarRules", fn := fun _ => fun
  | [d1, d2, d3] => { results := [.lit (.bool false)], args := [d1, d2, d3] }
  | _ => none }
def ScalarRulesWrongFalsely : Prop := scalarRulesRow.holds Tryd.pinned (OpenSpec.ofChange scalarRulesWrong)

/-- 'portcullislaw4.ScalarShifts': WHATEVER THE INPUT: true; the input reads as it did. -/
def scalarShiftsSpec : ChangeSpec := { name := "scalarShifts", fn := fun _ => fun
  | [d1, d2] => { results := [.lit (.bool true)], args := [d1, d2] }
  | _ => none }
def scalarShiftsRow : OpenClaim := { program := "ytoebokeehhfboaadoor", sum := "3bb5951d5dea1898e98ae7b3da9cb6bab07eea670dd5b901267b62196da35eb9", func := "portcullis/portcullislaw4.ScalarShifts", spec := "scalarShifts", named := ["portcullis/scalar.tail"], apart := false, laid := [("portcullis/scalar.tail", laid_portcullis_scalar_tail)] }
def ScalarShiftsSaid : Prop := scalarShiftsRow.holds Tryd.pinned (OpenSpec.ofChange scalarShiftsSpec)

/-- ITS FALSE NEIGHBOUR: 'it returns false'. Refute it at one input. -/
def scalarShiftsWrong : ChangeSpec := { name := "scalarShifts", fn := fun _ => fun
  | [d1, d2] => { results := [.lit (.bool false)], args := [d1, d2] }
  | _ => none }
def ScalarShiftsWrongFalsely : Prop := scalarShiftsRow.holds Tryd.pinned (OpenSpec.ofChange scalarShiftsWrong)

/-- 'portcullislaw4.ScalarLong': WHATEVER THE INPUT: true; the input reads as it did. -/
def scalarLongSpec : ChangeSpec := { name := "scalarLong", fn := fun _ => fun
  | [d1, d2, d3] => { results := [.lit (.bool true)], args := [d1, d2, d3] }
  | _ => none }
def scalarLongRow : OpenClaim := { program := "ytoebokeehhfboaadoor", sum := "3bb5951d5dea1898e98ae7b3da9cb6bab07eea670dd5b901267b62196da35eb9", func := "portcullis/portcullislaw4.ScalarLong", spec := "scalarLong", named := ["portcullis/scalar.tail"], apart := false, laid := [("portcullis/scalar.tail", laid_portcullis_scalar_tail)] }
def ScalarLongSaid : Prop := scalarLongRow.holds Tryd.pinned (OpenSpec.ofChange scalarLongSpec)

/-- ITS FALSE NEIGHBOUR: 'it returns false'. Refute it at one input. -/
def scalarLongWrong : ChangeSpec := { name := "scalarLong", fn := fun _ => fun
  | [d1, d2, d3] => { results := [.lit (.bool false)], args := [d1, d2, d3] }
  | _ => none }
def ScalarLongWrongFalsely : Prop := scalarLongRow.holds Tryd.pinned (OpenSpec.ofChange scalarLongWrong)

/- THE SECOND FORM. 'bulk': how many values and letters a reading holds, each counted each time it is reached (what is shared counts as often as it is met; a slice's spare places count too). A statement '..UptoSaid' is the law's where the arguments, and the package variables that the reading takes, are together of bulk at most 1048576: NARROWER than '..Said'. Prove '..Said' where nothing that the law and all that it calls make is longer than what came in: it says more and counts as full. Else prove '..UptoSaid'. A law counts once. -/
mutual
def uptoBulk {H : Type} : DataW H → Nat
  | .lit (.string bytes) => bytes.length + 1
  | .lit _ => 1
  | .nil => 1
  | .ptr d => uptoBulk d + 1
  | .slice elems spare => uptoBulkAll elems + uptoBulkAll spare + 1
  | .agg parts => uptoBulkAll parts + 1
  | .iface _ d => uptoBulk d + 1
  | .map entries => uptoBulkEntries entries + 1
  | .held _ => 1
def uptoBulkAll {H : Type} : List (DataW H) → Nat
  | [] => 0
  | d :: r => uptoBulk d + uptoBulkAll r
def uptoBulkEntries {H : Type} : List (Lit × DataW H) → Nat
  | [] => 0
  | x :: r => uptoBulkEntry x + uptoBulkEntries r
def uptoBulkEntry {H : Type} : Lit × DataW H → Nat
  | (.string bytes, d) => bytes.length + uptoBulk d + 1
  | (_, d) => uptoBulk d + 1
 end
def uptoSmall : (H : Type) → List (DataW H) → Bool := fun _ ds => decide (uptoBulkAll ds ≤ 1048576)
def OpenSpec.upto (s : _root_.Go.ChangeSpec) : _root_.Go.OpenSpec := { _root_.Go.OpenSpec.ofChange s with cond := some uptoSmall }

/-- 'portcullislaw4.ScalarReduces', WHERE WHAT IT READS IS OF BULK AT MOST 1048576: true; the input reads as it did. -/
def scalarReducesUptoRow : OpenClaim := { program := "ytoebokeehhfboaadoor", sum := "3bb5951d5dea1898e98ae7b3da9cb6bab07eea670dd5b901267b62196da35eb9", func := "portcullis/portcullislaw4.ScalarReduces", spec := "scalarReduces", named := ["portcullis/scalar.tail", "portcullis/portcullisref3.order"], apart := false, laid := [("portcullis/portcullisref3.order", laid_portcullis_portcullisref3_order), ("portcullis/scalar.tail", laid_portcullis_scalar_tail)], narrowed := true }
def ScalarReducesUptoSaid : Prop := scalarReducesUptoRow.holds Tryd.pinned (OpenSpec.upto scalarReducesSpec)

/-- 'portcullislaw4.ScalarSums', WHERE WHAT IT READS IS OF BULK AT MOST 1048576: true; the input reads as it did. -/
def scalarSumsUptoRow : OpenClaim := { program := "ytoebokeehhfboaadoor", sum := "3bb5951d5dea1898e98ae7b3da9cb6bab07eea670dd5b901267b62196da35eb9", func := "portcullis/portcullislaw4.ScalarSums", spec := "scalarSums", named := ["portcullis/scalar.tail", "portcullis/portcullisref3.order"], apart := false, laid := [("portcullis/portcullisref3.order", laid_portcullis_portcullisref3_order), ("portcullis/scalar.tail", laid_portcullis_scalar_tail)], narrowed := true }
def ScalarSumsUptoSaid : Prop := scalarSumsUptoRow.holds Tryd.pinned (OpenSpec.upto scalarSumsSpec)

/-- 'portcullislaw4.ScalarRules', WHERE WHAT IT READS IS OF BULK AT MOST 1048576: true; the input reads as it did. -/
def scalarRulesUptoRow : OpenClaim := { program := "ytoebokeehhfboaadoor", sum := "3bb5951d5dea1898e98ae7b3da9cb6bab07eea670dd5b901267b62196da35eb9", func := "portcullis/portcullislaw4.ScalarRules", spec := "scalarRules", named := ["portcullis/scalar.tail"], apart := false, laid := [("portcullis/scalar.tail", laid_portcullis_scalar_tail)], narrowed := true }
def ScalarRulesUptoSaid : Prop := scalarRulesUptoRow.holds Tryd.pinned (OpenSpec.upto scalarRulesSpec)

/-- 'portcullislaw4.ScalarShifts', WHERE WHAT IT READS IS OF BULK AT MOST 1048576: true; the input reads as it did. -/
def scalarShiftsUptoRow : OpenClaim := { program := "ytoebokeehhfboaadoor", sum := "3bb5951d5dea1898e98ae7b3da9cb6bab07eea670dd5b901267b62196da35eb9", func := "portcullis/portcullislaw4.ScalarShifts", spec := "scalarShifts", named := ["portcullis/scalar.tail"], apart := false, laid := [("portcullis/scalar.tail", laid_portcullis_scalar_tail)], narrowed := true }
def ScalarShiftsUptoSaid : Prop := scalarShiftsUptoRow.holds Tryd.pinned (OpenSpec.upto scalarShiftsSpec)

/-- 'portcullislaw4.ScalarLong', WHERE WHAT IT READS IS OF BULK AT MOST 1048576: true; the input reads as it did. -/
def scalarLongUptoRow : OpenClaim := { program := "ytoebokeehhfboaadoor", sum := "3bb5951d5dea1898e98ae7b3da9cb6bab07eea670dd5b901267b62196da35eb9", func := "portcullis/portcullislaw4.ScalarLong", spec := "scalarLong", named := ["portcullis/scalar.tail"], apart := false, laid := [("portcullis/scalar.tail", laid_portcullis_scalar_tail)], narrowed := true }
def ScalarLongUptoSaid : Prop := scalarLongUptoRow.holds Tryd.pinned (OpenSpec.upto scalarLongSpec)

end Rows
end Go.Proofs.YtoebokeehhfboaaDoor
