/-
  DERIVED. GIVEN WITH THE SEED: THE CARDS: each row of YtimmnieopifcbaaGreatDoorRows.lean that lists a variable, with what it lists TIED to the program's text (the seventh form; the later family's looks); each row that meets fmt, with fmt's text TOLD by the authors' own Lean function (tested against real Go, not proved from fmt's source: count such statements apart). THE CARD IS WHAT COUNTS. Prove the row's statement (the work); the ties are given (YtimmnieopifcbaaGreatDoorTie.lean); close each card by the builder's one call (the guide's Derived/Test/ToyasCard.lean, 'card_holds'). Laid BY PROGRAM, IN A SANDBOX (cutbox-door.mjs). By AI agents, Wed Nov 11 2026. No macro, syntax, notation, axiom, sorry.
-/
import Derived.Test.YtimmnieopifcbaaGreatDoorRows
import GoSem.ClaimSeven
namespace Go.Proofs.YtimmnieopifcbaaGreatDoor
namespace Rows

/-- THE TIED CARD OF 'portcullislaw14.WrapWraps'. -/
def wrapWrapsCard : Claim7 := { stood := { row := wrapWrapsRow, standIns := [], harness := (true, "bbe8df7bdf01a4b944fd5c546128874fbfb4325b2b315886777f0190f38842d1"), looks := false }, kinds := [], alts := [], laidByText := true, laidKinds := [.data, .data], laidTests := true, laidLooks := .later }
def WrapWrapsCardSaid : Prop := Claim7.holds Tryz.pinned (.plain (OpenSpec.ofChange wrapWrapsSpec)) wrapWrapsCard

/-- THE TIED CARD OF 'portcullislaw14.WrapOpens'. -/
def wrapOpensCard : Claim7 := { stood := { row := wrapOpensRow, standIns := [], harness := (true, "bbe8df7bdf01a4b944fd5c546128874fbfb4325b2b315886777f0190f38842d1"), looks := false }, kinds := [], alts := [], laidByText := true, laidKinds := [.data, .data], laidTests := true, laidLooks := .later }
def WrapOpensCardSaid : Prop := Claim7.holds Tryz.pinned (.plain (OpenSpec.ofChange wrapOpensSpec)) wrapOpensCard

/-- THE TIED CARD OF 'portcullislaw14.WrapOther'. -/
def wrapOtherCard : Claim7 := { stood := { row := wrapOtherRow, standIns := [], harness := (true, "bbe8df7bdf01a4b944fd5c546128874fbfb4325b2b315886777f0190f38842d1"), looks := false }, kinds := [], alts := [], laidByText := true, laidKinds := [.data, .data], laidTests := true, laidLooks := .later }
def WrapOtherCardSaid : Prop := Claim7.holds Tryz.pinned (.plain (OpenSpec.ofChange wrapOtherSpec)) wrapOtherCard

/-- THE SECOND FORM's CARD OF 'portcullislaw14.WrapWraps'. -/
def wrapWrapsUptoCard : Claim7 := { stood := { row := wrapWrapsUptoRow, standIns := [], harness := (true, "bbe8df7bdf01a4b944fd5c546128874fbfb4325b2b315886777f0190f38842d1"), looks := false }, kinds := [], alts := [], laidByText := true, laidKinds := [.data, .data], laidTests := true, laidLooks := .later }
def WrapWrapsUptoCardSaid : Prop := Claim7.holds Tryz.pinned (.plain (OpenSpec.upto wrapWrapsSpec)) wrapWrapsUptoCard

/-- THE SECOND FORM's CARD OF 'portcullislaw14.WrapOpens'. -/
def wrapOpensUptoCard : Claim7 := { stood := { row := wrapOpensUptoRow, standIns := [], harness := (true, "bbe8df7bdf01a4b944fd5c546128874fbfb4325b2b315886777f0190f38842d1"), looks := false }, kinds := [], alts := [], laidByText := true, laidKinds := [.data, .data], laidTests := true, laidLooks := .later }
def WrapOpensUptoCardSaid : Prop := Claim7.holds Tryz.pinned (.plain (OpenSpec.upto wrapOpensSpec)) wrapOpensUptoCard

/-- THE SECOND FORM's CARD OF 'portcullislaw14.WrapOther'. -/
def wrapOtherUptoCard : Claim7 := { stood := { row := wrapOtherUptoRow, standIns := [], harness := (true, "bbe8df7bdf01a4b944fd5c546128874fbfb4325b2b315886777f0190f38842d1"), looks := false }, kinds := [], alts := [], laidByText := true, laidKinds := [.data, .data], laidTests := true, laidLooks := .later }
def WrapOtherUptoCardSaid : Prop := Claim7.holds Tryz.pinned (.plain (OpenSpec.upto wrapOtherSpec)) wrapOtherUptoCard
end Rows
end Go.Proofs.YtimmnieopifcbaaGreatDoor
