/-
  DERIVED. GIVEN WITH THE SEED: THE CARDS: each row of YtckggbkoabmjiaaGreatDoorRows.lean that lists a variable, with what it lists TIED to the program's text (the seventh form; the later family's looks); each row that meets fmt, with fmt's text TOLD by the authors' own Lean function (tested against real Go, not proved from fmt's source: count such statements apart). THE CARD IS WHAT COUNTS. Prove the row's statement (the work); the ties are given (YtckggbkoabmjiaaGreatDoorTie.lean); close each card by the builder's one call (the guide's Derived/Test/ToyasCard.lean, 'card_holds'). Laid BY PROGRAM, IN A SANDBOX (cutbox-door.mjs). By AI agents, Wed Nov 11 2026. No macro, syntax, notation, axiom, sorry.
-/
import Derived.Test.YtckggbkoabmjiaaGreatDoorRows
import GoSem.ClaimSeven
namespace Go.Proofs.YtckggbkoabmjiaaGreatDoor
namespace Rows

/-- THE TIED CARD OF 'portcullislaw13.CurveVerifies'. -/
def curveVerifiesCard : Claim7 := { stood := { row := curveVerifiesRow, standIns := [], harness := (true, "e7ba87e54e2d7fcd6133fbd59fa38a48fed1ad45a3692b7a3016313b253104a9"), looks := false }, kinds := [], alts := [], laidByText := true, laidKinds := [.data, .data, .data, .data, .data, .data, .data, .data, .data], laidTests := true, laidLooks := .later }
def CurveVerifiesCardSaid : Prop := Claim7.holds Tryz.pinned (.plain (OpenSpec.ofChange curveVerifiesSpec)) curveVerifiesCard

/-- THE TIED CARD OF 'portcullislaw13.CurveTurned'. -/
def curveTurnedCard : Claim7 := { stood := { row := curveTurnedRow, standIns := [], harness := (true, "e7ba87e54e2d7fcd6133fbd59fa38a48fed1ad45a3692b7a3016313b253104a9"), looks := false }, kinds := [], alts := [], laidByText := true, laidKinds := [.data, .data, .data, .data, .data, .data, .data, .data, .data], laidTests := true, laidLooks := .later }
def CurveTurnedCardSaid : Prop := Claim7.holds Tryz.pinned (.plain (OpenSpec.ofChange curveTurnedSpec)) curveTurnedCard

/-- THE SECOND FORM's CARD OF 'portcullislaw13.CurveVerifies'. -/
def curveVerifiesUptoCard : Claim7 := { stood := { row := curveVerifiesUptoRow, standIns := [], harness := (true, "e7ba87e54e2d7fcd6133fbd59fa38a48fed1ad45a3692b7a3016313b253104a9"), looks := false }, kinds := [], alts := [], laidByText := true, laidKinds := [.data, .data, .data, .data, .data, .data, .data, .data, .data], laidTests := true, laidLooks := .later }
def CurveVerifiesUptoCardSaid : Prop := Claim7.holds Tryz.pinned (.plain (OpenSpec.upto curveVerifiesSpec)) curveVerifiesUptoCard

/-- THE SECOND FORM's CARD OF 'portcullislaw13.CurveTurned'. -/
def curveTurnedUptoCard : Claim7 := { stood := { row := curveTurnedUptoRow, standIns := [], harness := (true, "e7ba87e54e2d7fcd6133fbd59fa38a48fed1ad45a3692b7a3016313b253104a9"), looks := false }, kinds := [], alts := [], laidByText := true, laidKinds := [.data, .data, .data, .data, .data, .data, .data, .data, .data], laidTests := true, laidLooks := .later }
def CurveTurnedUptoCardSaid : Prop := Claim7.holds Tryz.pinned (.plain (OpenSpec.upto curveTurnedSpec)) curveTurnedUptoCard
end Rows
end Go.Proofs.YtckggbkoabmjiaaGreatDoor
