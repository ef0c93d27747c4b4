/-
  No cell of these rows narrows 'for every input' (looked for: loops, veiled, ifaces, maps, wideKeys, modest, calm, conditions, laid).
  DERIVED. THE GIVEN ROWS OF THIS SEAT. 7 by the template 'for every input the law returns true; each argument reads behind the call as it read before'; 0 by the template 'total and deterministic' (their statements: YtdjdalaghfknoaaTotals.lean).
  GIVEN WITH THE SEED: the statements are not yours to turn. If you find one false, say at which input.
  Laid BY PROGRAM, IN A SANDBOX (cutbox-rows.mjs): the forced cells as the released guide's own fill.sh prints them over the translation 9c14bc9b894f5ff5… (all of the seat's roots in one cut). By AI agents, Wed Nov 11 2026. No macro, syntax, notation, axiom, sorry.
-/
import Derived.Test.YtdjdalaghfknoaaChecked
import GoSem.Claim
import GoSem.ClaimJoined
import GoSem.ClaimMapViews
import Derived.JoinedTies
import Derived.KernelRfl
namespace Go.Proofs.Ytdjdalaghfknoaa
/- THE CELL 'sum', in the pinned program and in every row, IS THE sha256 OF THE DUMP (.gsa) THAT YtdjdalaghfknoaaProg.lean LOADS. Nothing in Lean hashes anything: it is a label: what it is worth is what the hold of that sum in a sandbox is worth. -/
noncomputable def Try.pinned : Pinned := { name := "ytdjdalaghfknoaa", sum := "9c14bc9b894f5ff588c479e5268d731a958b81d9b1be30ec5f429b34f065e282", checked := Try.checked }
namespace Rows
def none {H : Type} : Left H := { results := [], args := [] }

/-- 'portcullislaw12.LadderMuls': WHATEVER THE INPUT: true; the input reads as it did. -/
def ladderMulsSpec : ChangeSpec := { name := "ladderMuls", fn := fun _ => fun
  | [d1, d2] => { results := [.lit (.bool true)], args := [d1, d2] }
  | _ => none }
def ladderMulsRow : OpenClaim := { program := "ytdjdalaghfknoaa", sum := "9c14bc9b894f5ff588c479e5268d731a958b81d9b1be30ec5f429b34f065e282", func := "portcullis/portcullislaw12.LadderMuls", spec := "ladderMuls", inPlace := ["math/bits.Add64"], apart := false }
def LadderMulsSaid : Prop := ladderMulsRow.holds Try.pinned (OpenSpec.ofChange ladderMulsSpec)

/-- ITS FALSE NEIGHBOUR: 'it returns false'. Refute it at one input. -/
def ladderMulsWrong : ChangeSpec := { name := "ladderMuls", fn := fun _ => fun
  | [d1, d2] => { results := [.lit (.bool false)], args := [d1, d2] }
  | _ => none }
def LadderMulsWrongFalsely : Prop := ladderMulsRow.holds Try.pinned (OpenSpec.ofChange ladderMulsWrong)

/-- 'portcullislaw12.LadderShares': WHATEVER THE INPUT: true; the input reads as it did. -/
def ladderSharesSpec : ChangeSpec := { name := "ladderShares", fn := fun _ => fun
  | [d1, d2] => { results := [.lit (.bool true)], args := [d1, d2] }
  | _ => none }
def ladderSharesRow : OpenClaim := { program := "ytdjdalaghfknoaa", sum := "9c14bc9b894f5ff588c479e5268d731a958b81d9b1be30ec5f429b34f065e282", func := "portcullis/portcullislaw12.LadderShares", spec := "ladderShares", inPlace := ["math/bits.Add64"], apart := false }
def LadderSharesSaid : Prop := ladderSharesRow.holds Try.pinned (OpenSpec.ofChange ladderSharesSpec)

/-- ITS FALSE NEIGHBOUR: 'it returns false'. Refute it at one input. -/
def ladderSharesWrong : ChangeSpec := { name := "ladderShares", fn := fun _ => fun
  | [d1, d2] => { results := [.lit (.bool false)], args := [d1, d2] }
  | _ => none }
def LadderSharesWrongFalsely : Prop := ladderSharesRow.holds Try.pinned (OpenSpec.ofChange ladderSharesWrong)

/-- 'portcullislaw12.LadderBits': WHATEVER THE INPUT: true; the input reads as it did. -/
def ladderBitsSpec : ChangeSpec := { name := "ladderBits", fn := fun _ => fun
  | [d1, d2, d3, d4, d5] => { results := [.lit (.bool true)], args := [d1, d2, d3, d4, d5] }
  | _ => none }
def ladderBitsRow : OpenClaim := { program := "ytdjdalaghfknoaa", sum := "9c14bc9b894f5ff588c479e5268d731a958b81d9b1be30ec5f429b34f065e282", func := "portcullis/portcullislaw12.LadderBits", spec := "ladderBits", inPlace := ["math/bits.Add64"], apart := false }
def LadderBitsSaid : Prop := ladderBitsRow.holds Try.pinned (OpenSpec.ofChange ladderBitsSpec)

/-- ITS FALSE NEIGHBOUR: 'it returns false'. Refute it at one input. -/
def ladderBitsWrong : ChangeSpec := { name := "ladderBits", fn := fun _ => fun
  | [d1, d2, d3, d4, d5] => { results := [.lit (.bool false)], args := [d1, d2, d3, d4, d5] }
  | _ => none }
def LadderBitsWrongFalsely : Prop := ladderBitsRow.holds Try.pinned (OpenSpec.ofChange ladderBitsWrong)

/-- 'portcullislaw12.LadderKnown': WHATEVER THE INPUT: true; the input reads as it did. -/
def ladderKnownSpec : ChangeSpec := { name := "ladderKnown", fn := fun _ => fun
  | [d] => { results := [.lit (.bool true)], args := [d] }
  | _ => none }
def ladderKnownRow : OpenClaim := { program := "ytdjdalaghfknoaa", sum := "9c14bc9b894f5ff588c479e5268d731a958b81d9b1be30ec5f429b34f065e282", func := "portcullis/portcullislaw12.LadderKnown", spec := "ladderKnown", inPlace := ["math/bits.Add64"], apart := false }
def LadderKnownSaid : Prop := ladderKnownRow.holds Try.pinned (OpenSpec.ofChange ladderKnownSpec)

/-- ITS FALSE NEIGHBOUR: 'it returns false'. Refute it at one input. -/
def ladderKnownWrong : ChangeSpec := { name := "ladderKnown", fn := fun _ => fun
  | [d] => { results := [.lit (.bool false)], args := [d] }
  | _ => none }
def LadderKnownWrongFalsely : Prop := ladderKnownRow.holds Try.pinned (OpenSpec.ofChange ladderKnownWrong)

/-- 'portcullislaw12.LadderThree': WHATEVER THE INPUT: true; the input reads as it did. -/
def ladderThreeSpec : ChangeSpec := { name := "ladderThree", fn := fun _ => fun
  | [d1, d2, d3] => { results := [.lit (.bool true)], args := [d1, d2, d3] }
  | _ => none }
def ladderThreeRow : OpenClaim := { program := "ytdjdalaghfknoaa", sum := "9c14bc9b894f5ff588c479e5268d731a958b81d9b1be30ec5f429b34f065e282", func := "portcullis/portcullislaw12.LadderThree", spec := "ladderThree", inPlace := ["math/bits.Add64"], apart := false }
def LadderThreeSaid : Prop := ladderThreeRow.holds Try.pinned (OpenSpec.ofChange ladderThreeSpec)

/-- ITS FALSE NEIGHBOUR: 'it returns false'. Refute it at one input. -/
def ladderThreeWrong : ChangeSpec := { name := "ladderThree", fn := fun _ => fun
  | [d1, d2, d3] => { results := [.lit (.bool false)], args := [d1, d2, d3] }
  | _ => none }
def LadderThreeWrongFalsely : Prop := ladderThreeRow.holds Try.pinned (OpenSpec.ofChange ladderThreeWrong)

/-- 'portcullislaw12.LadderLow': WHATEVER THE INPUT: true; the input reads as it did. -/
def ladderLowSpec : ChangeSpec := { name := "ladderLow", fn := fun _ => fun
  | [d1, d2, d3] => { results := [.lit (.bool true)], args := [d1, d2, d3] }
  | _ => none }
def ladderLowRow : OpenClaim := { program := "ytdjdalaghfknoaa", sum := "9c14bc9b894f5ff588c479e5268d731a958b81d9b1be30ec5f429b34f065e282", func := "portcullis/portcullislaw12.LadderLow", spec := "ladderLow", inPlace := ["math/bits.Add64"], apart := false }
def LadderLowSaid : Prop := ladderLowRow.holds Try.pinned (OpenSpec.ofChange ladderLowSpec)

/-- ITS FALSE NEIGHBOUR: 'it returns false'. Refute it at one input. -/
def ladderLowWrong : ChangeSpec := { name := "ladderLow", fn := fun _ => fun
  | [d1, d2, d3] => { results := [.lit (.bool false)], args := [d1, d2, d3] }
  | _ => none }
def LadderLowWrongFalsely : Prop := ladderLowRow.holds Try.pinned (OpenSpec.ofChange ladderLowWrong)

/-- 'portcullislaw12.LadderCanon': WHATEVER THE INPUT: true; the input reads as it did. -/
def ladderCanonSpec : ChangeSpec := { name := "ladderCanon", fn := fun _ => fun
  | [d1, d2] => { results := [.lit (.bool true)], args := [d1, d2] }
  | _ => none }
def ladderCanonRow : OpenClaim := { program := "ytdjdalaghfknoaa", sum := "9c14bc9b894f5ff588c479e5268d731a958b81d9b1be30ec5f429b34f065e282", func := "portcullis/portcullislaw12.LadderCanon", spec := "ladderCanon", inPlace := ["math/bits.Add64"], apart := false }
def LadderCanonSaid : Prop := ladderCanonRow.holds Try.pinned (OpenSpec.ofChange ladderCanonSpec)

/-- ITS FALSE NEIGHBOUR: 'it returns false'. Refute it at one input. -/
def ladderCanonWrong : ChangeSpec := { name := "ladderCanon", fn := fun _ => fun
  | [d1, d2] => { results := [.lit (.bool false)], args := [d1, d2] }
  | _ => none }
def LadderCanonWrongFalsely : Prop := ladderCanonRow.holds Try.pinned (OpenSpec.ofChange ladderCanonWrong)

/- THE SECOND FORM. 'bulk': how many values and letters a reading holds, each counted each time it is reached (what is shared counts as often as it is met; a slice's spare places count too). A statement '..UptoSaid' is the law's where the arguments, and the package variables that the reading takes, are together of bulk at most 1048576: NARROWER than '..Said'. Prove '..Said' where nothing that the law and all that it calls make is longer than what came in: it says more and counts as full. Else prove '..UptoSaid'. A law counts once. -/
mutual
def uptoBulk {H : Type} : DataW H → Nat
  | .lit (.string bytes) => bytes.length + 1
  | .lit _ => 1
  | .nil => 1
  | .ptr d => uptoBulk d + 1
  | .slice elems spare => uptoBulkAll elems + uptoBulkAll spare + 1
  | .agg parts => uptoBulkAll parts + 1
  | .iface _ d => uptoBulk d + 1
  | .map entries => uptoBulkEntries entries + 1
  | .held _ => 1
def uptoBulkAll {H : Type} : List (DataW H) → Nat
  | [] => 0
  | d :: r => uptoBulk d + uptoBulkAll r
def uptoBulkEntries {H : Type} : List (Lit × DataW H) → Nat
  | [] => 0
  | x :: r => uptoBulkEntry x + uptoBulkEntries r
def uptoBulkEntry {H : Type} : Lit × DataW H → Nat
  | (.string bytes, d) => bytes.length + uptoBulk d + 1
  | (_, d) => uptoBulk d + 1
 end
def uptoSmall : (H : Type) → List (DataW H) → Bool := fun _ ds => decide (uptoBulkAll ds ≤ 1048576)
def OpenSpec.upto (s : _root_.Go.ChangeSpec) : _root_.Go.OpenSpec := { _root_.Go.OpenSpec.ofChange s with cond := some uptoSmall }

/-- 'portcullislaw12.LadderMuls', WHERE WHAT IT READS IS OF BULK AT MOST 1048576: true; the input reads as it did. -/
def ladderMulsUptoRow : OpenClaim := { program := "ytdjdalaghfknoaa", sum := "9c14bc9b894f5ff588c479e5268d731a958b81d9b1be30ec5f429b34f065e282", func := "portcullis/portcullislaw12.LadderMuls", spec := "ladderMuls", inPlace := ["math/bits.Add64"], apart := false, narrowed := true }
def LadderMulsUptoSaid : Prop := ladderMulsUptoRow.holds Try.pinned (OpenSpec.upto ladderMulsSpec)

/-- 'portcullislaw12.LadderShares', WHERE WHAT IT READS IS OF BULK AT MOST 1048576: true; the input reads as it did. -/
def ladderSharesUptoRow : OpenClaim := { program := "ytdjdalaghfknoaa", sum := "9c14bc9b894f5ff588c479e5268d731a958b81d9b1be30ec5f429b34f065e282", func := "portcullis/portcullislaw12.LadderShares", spec := "ladderShares", inPlace := ["math/bits.Add64"], apart := false, narrowed := true }
def LadderSharesUptoSaid : Prop := ladderSharesUptoRow.holds Try.pinned (OpenSpec.upto ladderSharesSpec)

/-- 'portcullislaw12.LadderBits', WHERE WHAT IT READS IS OF BULK AT MOST 1048576: true; the input reads as it did. -/
def ladderBitsUptoRow : OpenClaim := { program := "ytdjdalaghfknoaa", sum := "9c14bc9b894f5ff588c479e5268d731a958b81d9b1be30ec5f429b34f065e282", func := "portcullis/portcullislaw12.LadderBits", spec := "ladderBits", inPlace := ["math/bits.Add64"], apart := false, narrowed := true }
def LadderBitsUptoSaid : Prop := ladderBitsUptoRow.holds Try.pinned (OpenSpec.upto ladderBitsSpec)

/-- 'portcullislaw12.LadderKnown', WHERE WHAT IT READS IS OF BULK AT MOST 1048576: true; the input reads as it did. -/
def ladderKnownUptoRow : OpenClaim := { program := "ytdjdalaghfknoaa", sum := "9c14bc9b894f5ff588c479e5268d731a958b81d9b1be30ec5f429b34f065e282", func := "portcullis/portcullislaw12.LadderKnown", spec := "ladderKnown", inPlace := ["math/bits.Add64"], apart := false, narrowed := true }
def LadderKnownUptoSaid : Prop := ladderKnownUptoRow.holds Try.pinned (OpenSpec.upto ladderKnownSpec)

/-- 'portcullislaw12.LadderThree', WHERE WHAT IT READS IS OF BULK AT MOST 1048576: true; the input reads as it did. -/
def ladderThreeUptoRow : OpenClaim := { program := "ytdjdalaghfknoaa", sum := "9c14bc9b894f5ff588c479e5268d731a958b81d9b1be30ec5f429b34f065e282", func := "portcullis/portcullislaw12.LadderThree", spec := "ladderThree", inPlace := ["math/bits.Add64"], apart := false, narrowed := true }
def LadderThreeUptoSaid : Prop := ladderThreeUptoRow.holds Try.pinned (OpenSpec.upto ladderThreeSpec)

/-- 'portcullislaw12.LadderLow', WHERE WHAT IT READS IS OF BULK AT MOST 1048576: true; the input reads as it did. -/
def ladderLowUptoRow : OpenClaim := { program := "ytdjdalaghfknoaa", sum := "9c14bc9b894f5ff588c479e5268d731a958b81d9b1be30ec5f429b34f065e282", func := "portcullis/portcullislaw12.LadderLow", spec := "ladderLow", inPlace := ["math/bits.Add64"], apart := false, narrowed := true }
def LadderLowUptoSaid : Prop := ladderLowUptoRow.holds Try.pinned (OpenSpec.upto ladderLowSpec)

/-- 'portcullislaw12.LadderCanon', WHERE WHAT IT READS IS OF BULK AT MOST 1048576: true; the input reads as it did. -/
def ladderCanonUptoRow : OpenClaim := { program := "ytdjdalaghfknoaa", sum := "9c14bc9b894f5ff588c479e5268d731a958b81d9b1be30ec5f429b34f065e282", func := "portcullis/portcullislaw12.LadderCanon", spec := "ladderCanon", inPlace := ["math/bits.Add64"], apart := false, narrowed := true }
def LadderCanonUptoSaid : Prop := ladderCanonUptoRow.holds Try.pinned (OpenSpec.upto ladderCanonSpec)

end Rows
end Go.Proofs.Ytdjdalaghfknoaa
