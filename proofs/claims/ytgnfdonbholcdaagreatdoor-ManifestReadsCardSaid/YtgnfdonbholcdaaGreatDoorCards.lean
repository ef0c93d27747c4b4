/-
  DERIVED. GIVEN WITH THE SEED: THE CARDS: each row of YtgnfdonbholcdaaGreatDoorRows.lean that lists a variable, with what it lists TIED to the program's text (the seventh form; the later family's looks); each row that meets fmt, with fmt's text TOLD by the authors' own Lean function (tested against real Go, not proved from fmt's source: count such statements apart). THE CARD IS WHAT COUNTS. Prove the row's statement (the work); the ties are given (YtgnfdonbholcdaaGreatDoorTie.lean); close each card by the builder's one call (the guide's Derived/Test/ToyasCard.lean, 'card_holds'). Laid BY PROGRAM, IN A SANDBOX (cutbox-door.mjs). By AI agents, Wed Nov 11 2026. No macro, syntax, notation, axiom, sorry.
-/
import Derived.Test.YtgnfdonbholcdaaGreatDoorRows
import GoSem.ClaimSeven
namespace Go.Proofs.YtgnfdonbholcdaaGreatDoor
namespace Rows

/-- THE TIED CARD OF 'portcullislaw17.ManifestPacks'. -/
def manifestPacksCard : Claim7 := { stood := { row := manifestPacksRow, standIns := [], harness := (true, "5c785f3ee5eda7a619249a4bff192eedfe75642ab8f42c579e76ea58aeac7fe8"), looks := false }, kinds := [], alts := [], laidByText := true, laidKinds := [.data, .data, .data, .data, .data, .data, .data, .data], laidTests := true, laidLooks := .later }
def ManifestPacksCardSaid : Prop := Claim7.holds Tryz.pinned (.plain (OpenSpec.ofChange manifestPacksSpec)) manifestPacksCard

/-- THE TIED CARD OF 'portcullislaw17.ManifestReads'. -/
def manifestReadsCard : Claim7 := { stood := { row := manifestReadsRow, standIns := [], harness := (true, "5c785f3ee5eda7a619249a4bff192eedfe75642ab8f42c579e76ea58aeac7fe8"), looks := false }, kinds := [], alts := [], laidByText := true, laidKinds := [.data, .data, .data, .data, .data, .data, .data, .data], laidTests := true, laidLooks := .later }
def ManifestReadsCardSaid : Prop := Claim7.holds Tryz.pinned (.plain (OpenSpec.ofChange manifestReadsSpec)) manifestReadsCard

/-- THE TIED CARD OF 'portcullislaw17.ManifestSigns'. -/
def manifestSignsCard : Claim7 := { stood := { row := manifestSignsRow, standIns := [], harness := (true, "5c785f3ee5eda7a619249a4bff192eedfe75642ab8f42c579e76ea58aeac7fe8"), looks := false }, kinds := [], alts := [], laidByText := true, laidKinds := [.data, .data, .data, .data, .data, .data, .data, .data, .data, .data], laidTests := true, laidLooks := .later }
def ManifestSignsCardSaid : Prop := Claim7.holds Tryz.pinned (.plain (OpenSpec.ofChange manifestSignsSpec)) manifestSignsCard

/-- THE TIED CARD OF 'portcullislaw17.ManifestWrong'. -/
def manifestWrongCard : Claim7 := { stood := { row := manifestWrongRow, standIns := [], harness := (true, "5c785f3ee5eda7a619249a4bff192eedfe75642ab8f42c579e76ea58aeac7fe8"), looks := false }, kinds := [], alts := [], laidByText := true, laidKinds := [.data, .data, .data, .data, .data, .data, .data, .data, .data, .data], laidTests := true, laidLooks := .later }
def ManifestWrongCardSaid : Prop := Claim7.holds Tryz.pinned (.plain (OpenSpec.ofChange manifestWrongSpec)) manifestWrongCard

/-- THE TIED CARD OF 'portcullislaw17.ManifestTurned'. -/
def manifestTurnedCard : Claim7 := { stood := { row := manifestTurnedRow, standIns := [], harness := (true, "5c785f3ee5eda7a619249a4bff192eedfe75642ab8f42c579e76ea58aeac7fe8"), looks := false }, kinds := [], alts := [], laidByText := true, laidKinds := [.data, .data, .data, .data, .data, .data, .data, .data, .data, .data], laidTests := true, laidLooks := .later }
def ManifestTurnedCardSaid : Prop := Claim7.holds Tryz.pinned (.plain (OpenSpec.ofChange manifestTurnedSpec)) manifestTurnedCard

/-- THE SECOND FORM's CARD OF 'portcullislaw17.ManifestPacks'. -/
def manifestPacksUptoCard : Claim7 := { stood := { row := manifestPacksUptoRow, standIns := [], harness := (true, "5c785f3ee5eda7a619249a4bff192eedfe75642ab8f42c579e76ea58aeac7fe8"), looks := false }, kinds := [], alts := [], laidByText := true, laidKinds := [.data, .data, .data, .data, .data, .data, .data, .data], laidTests := true, laidLooks := .later }
def ManifestPacksUptoCardSaid : Prop := Claim7.holds Tryz.pinned (.plain (OpenSpec.upto manifestPacksSpec)) manifestPacksUptoCard

/-- THE SECOND FORM's CARD OF 'portcullislaw17.ManifestReads'. -/
def manifestReadsUptoCard : Claim7 := { stood := { row := manifestReadsUptoRow, standIns := [], harness := (true, "5c785f3ee5eda7a619249a4bff192eedfe75642ab8f42c579e76ea58aeac7fe8"), looks := false }, kinds := [], alts := [], laidByText := true, laidKinds := [.data, .data, .data, .data, .data, .data, .data, .data], laidTests := true, laidLooks := .later }
def ManifestReadsUptoCardSaid : Prop := Claim7.holds Tryz.pinned (.plain (OpenSpec.upto manifestReadsSpec)) manifestReadsUptoCard

/-- THE SECOND FORM's CARD OF 'portcullislaw17.ManifestSigns'. -/
def manifestSignsUptoCard : Claim7 := { stood := { row := manifestSignsUptoRow, standIns := [], harness := (true, "5c785f3ee5eda7a619249a4bff192eedfe75642ab8f42c579e76ea58aeac7fe8"), looks := false }, kinds := [], alts := [], laidByText := true, laidKinds := [.data, .data, .data, .data, .data, .data, .data, .data, .data, .data], laidTests := true, laidLooks := .later }
def ManifestSignsUptoCardSaid : Prop := Claim7.holds Tryz.pinned (.plain (OpenSpec.upto manifestSignsSpec)) manifestSignsUptoCard

/-- THE SECOND FORM's CARD OF 'portcullislaw17.ManifestWrong'. -/
def manifestWrongUptoCard : Claim7 := { stood := { row := manifestWrongUptoRow, standIns := [], harness := (true, "5c785f3ee5eda7a619249a4bff192eedfe75642ab8f42c579e76ea58aeac7fe8"), looks := false }, kinds := [], alts := [], laidByText := true, laidKinds := [.data, .data, .data, .data, .data, .data, .data, .data, .data, .data], laidTests := true, laidLooks := .later }
def ManifestWrongUptoCardSaid : Prop := Claim7.holds Tryz.pinned (.plain (OpenSpec.upto manifestWrongSpec)) manifestWrongUptoCard

/-- THE SECOND FORM's CARD OF 'portcullislaw17.ManifestTurned'. -/
def manifestTurnedUptoCard : Claim7 := { stood := { row := manifestTurnedUptoRow, standIns := [], harness := (true, "5c785f3ee5eda7a619249a4bff192eedfe75642ab8f42c579e76ea58aeac7fe8"), looks := false }, kinds := [], alts := [], laidByText := true, laidKinds := [.data, .data, .data, .data, .data, .data, .data, .data, .data, .data], laidTests := true, laidLooks := .later }
def ManifestTurnedUptoCardSaid : Prop := Claim7.holds Tryz.pinned (.plain (OpenSpec.upto manifestTurnedSpec)) manifestTurnedUptoCard
end Rows
end Go.Proofs.YtgnfdonbholcdaaGreatDoor
