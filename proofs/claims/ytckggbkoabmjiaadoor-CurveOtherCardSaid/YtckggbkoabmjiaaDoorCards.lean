/-
  DERIVED. GIVEN WITH THE SEED: THE CARDS: each row of YtckggbkoabmjiaaDoorRows.lean that lists a variable, with what it lists TIED to the program's text (the seventh form; the later family's looks); each row that meets fmt, with fmt's text TOLD by the authors' own Lean function (tested against real Go, not proved from fmt's source: count such statements apart). THE CARD IS WHAT COUNTS. Prove the row's statement (the work); the ties are given (YtckggbkoabmjiaaDoorTie.lean); close each card by the builder's one call (the guide's Derived/Test/ToyasCard.lean, 'card_holds'). Laid BY PROGRAM, IN A SANDBOX (cutbox-door.mjs). By AI agents, Wed Nov 11 2026. No macro, syntax, notation, axiom, sorry.
-/
import Derived.Test.YtckggbkoabmjiaaDoorRows
import GoSem.ClaimSeven
namespace Go.Proofs.YtckggbkoabmjiaaDoor
namespace Rows

/-- THE TIED CARD OF 'portcullislaw13.CurvePublics'. -/
def curvePublicsCard : Claim7 := { stood := { row := curvePublicsRow, standIns := [], harness := (true, "61fdbcf794a9129560bc2492be0c73d4b36e2cbde2f25c76fc4499fd178b5b9b"), looks := false }, kinds := [], alts := [], laidByText := true, laidKinds := [.data, .data, .data, .data, .data, .data, .data], laidTests := true, laidLooks := .later }
def CurvePublicsCardSaid : Prop := Claim7.holds Tryd.pinned (.plain (OpenSpec.ofChange curvePublicsSpec)) curvePublicsCard

/-- THE TIED CARD OF 'portcullislaw13.CurveSigns'. -/
def curveSignsCard : Claim7 := { stood := { row := curveSignsRow, standIns := [], harness := (true, "61fdbcf794a9129560bc2492be0c73d4b36e2cbde2f25c76fc4499fd178b5b9b"), looks := false }, kinds := [], alts := [], laidByText := true, laidKinds := [.data, .data, .data, .data, .data, .data, .data, .data], laidTests := true, laidLooks := .later }
def CurveSignsCardSaid : Prop := Claim7.holds Tryd.pinned (.plain (OpenSpec.ofChange curveSignsSpec)) curveSignsCard

/-- THE TIED CARD OF 'portcullislaw13.CurveGreat'. -/
def curveGreatCard : Claim7 := { stood := { row := curveGreatRow, standIns := [], harness := (true, "61fdbcf794a9129560bc2492be0c73d4b36e2cbde2f25c76fc4499fd178b5b9b"), looks := false }, kinds := [], alts := [], laidByText := true, laidKinds := [.data, .data, .data], laidTests := true, laidLooks := .later }
def CurveGreatCardSaid : Prop := Claim7.holds Tryd.pinned (.plain (OpenSpec.ofChange curveGreatSpec)) curveGreatCard

/-- THE TIED CARD OF 'portcullislaw13.CurveCuts'. -/
def curveCutsCard : Claim7 := { stood := { row := curveCutsRow, standIns := [], harness := (true, "61fdbcf794a9129560bc2492be0c73d4b36e2cbde2f25c76fc4499fd178b5b9b"), looks := false }, kinds := [], alts := [], laidByText := true, laidKinds := [.data, .data, .data], laidTests := true, laidLooks := .later }
def CurveCutsCardSaid : Prop := Claim7.holds Tryd.pinned (.plain (OpenSpec.ofChange curveCutsSpec)) curveCutsCard

/-- THE TIED CARD OF 'portcullislaw13.CurvePoints'. -/
def curvePointsCard : Claim7 := { stood := { row := curvePointsRow, standIns := [], harness := (true, "61fdbcf794a9129560bc2492be0c73d4b36e2cbde2f25c76fc4499fd178b5b9b"), looks := false }, kinds := [], alts := [], laidByText := true, laidKinds := [.data, .data, .data, .data, .data], laidTests := true, laidLooks := .later }
def CurvePointsCardSaid : Prop := Claim7.holds Tryd.pinned (.plain (OpenSpec.ofChange curvePointsSpec)) curvePointsCard

/-- THE TIED CARD OF 'portcullislaw13.CurveOther'. -/
def curveOtherCard : Claim7 := { stood := { row := curveOtherRow, standIns := [], harness := (true, "61fdbcf794a9129560bc2492be0c73d4b36e2cbde2f25c76fc4499fd178b5b9b"), looks := false }, kinds := [], alts := [], laidByText := true, laidKinds := [.data, .data, .data, .data, .data, .data, .data, .data, .data], laidTests := true, laidLooks := .later }
def CurveOtherCardSaid : Prop := Claim7.holds Tryd.pinned (.plain (OpenSpec.ofChange curveOtherSpec)) curveOtherCard

/-- THE SECOND FORM's CARD OF 'portcullislaw13.CurvePublics'. -/
def curvePublicsUptoCard : Claim7 := { stood := { row := curvePublicsUptoRow, standIns := [], harness := (true, "61fdbcf794a9129560bc2492be0c73d4b36e2cbde2f25c76fc4499fd178b5b9b"), looks := false }, kinds := [], alts := [], laidByText := true, laidKinds := [.data, .data, .data, .data, .data, .data, .data], laidTests := true, laidLooks := .later }
def CurvePublicsUptoCardSaid : Prop := Claim7.holds Tryd.pinned (.plain (OpenSpec.upto curvePublicsSpec)) curvePublicsUptoCard

/-- THE SECOND FORM's CARD OF 'portcullislaw13.CurveSigns'. -/
def curveSignsUptoCard : Claim7 := { stood := { row := curveSignsUptoRow, standIns := [], harness := (true, "61fdbcf794a9129560bc2492be0c73d4b36e2cbde2f25c76fc4499fd178b5b9b"), looks := false }, kinds := [], alts := [], laidByText := true, laidKinds := [.data, .data, .data, .data, .data, .data, .data, .data], laidTests := true, laidLooks := .later }
def CurveSignsUptoCardSaid : Prop := Claim7.holds Tryd.pinned (.plain (OpenSpec.upto curveSignsSpec)) curveSignsUptoCard

/-- THE SECOND FORM's CARD OF 'portcullislaw13.CurveGreat'. -/
def curveGreatUptoCard : Claim7 := { stood := { row := curveGreatUptoRow, standIns := [], harness := (true, "61fdbcf794a9129560bc2492be0c73d4b36e2cbde2f25c76fc4499fd178b5b9b"), looks := false }, kinds := [], alts := [], laidByText := true, laidKinds := [.data, .data, .data], laidTests := true, laidLooks := .later }
def CurveGreatUptoCardSaid : Prop := Claim7.holds Tryd.pinned (.plain (OpenSpec.upto curveGreatSpec)) curveGreatUptoCard

/-- THE SECOND FORM's CARD OF 'portcullislaw13.CurveCuts'. -/
def curveCutsUptoCard : Claim7 := { stood := { row := curveCutsUptoRow, standIns := [], harness := (true, "61fdbcf794a9129560bc2492be0c73d4b36e2cbde2f25c76fc4499fd178b5b9b"), looks := false }, kinds := [], alts := [], laidByText := true, laidKinds := [.data, .data, .data], laidTests := true, laidLooks := .later }
def CurveCutsUptoCardSaid : Prop := Claim7.holds Tryd.pinned (.plain (OpenSpec.upto curveCutsSpec)) curveCutsUptoCard

/-- THE SECOND FORM's CARD OF 'portcullislaw13.CurvePoints'. -/
def curvePointsUptoCard : Claim7 := { stood := { row := curvePointsUptoRow, standIns := [], harness := (true, "61fdbcf794a9129560bc2492be0c73d4b36e2cbde2f25c76fc4499fd178b5b9b"), looks := false }, kinds := [], alts := [], laidByText := true, laidKinds := [.data, .data, .data, .data, .data], laidTests := true, laidLooks := .later }
def CurvePointsUptoCardSaid : Prop := Claim7.holds Tryd.pinned (.plain (OpenSpec.upto curvePointsSpec)) curvePointsUptoCard

/-- THE SECOND FORM's CARD OF 'portcullislaw13.CurveOther'. -/
def curveOtherUptoCard : Claim7 := { stood := { row := curveOtherUptoRow, standIns := [], harness := (true, "61fdbcf794a9129560bc2492be0c73d4b36e2cbde2f25c76fc4499fd178b5b9b"), looks := false }, kinds := [], alts := [], laidByText := true, laidKinds := [.data, .data, .data, .data, .data, .data, .data, .data, .data], laidTests := true, laidLooks := .later }
def CurveOtherUptoCardSaid : Prop := Claim7.holds Tryd.pinned (.plain (OpenSpec.upto curveOtherSpec)) curveOtherUptoCard
end Rows
end Go.Proofs.YtckggbkoabmjiaaDoor
