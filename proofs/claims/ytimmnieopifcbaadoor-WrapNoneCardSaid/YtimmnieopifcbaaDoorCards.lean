/-
  DERIVED. GIVEN WITH THE SEED: THE CARDS: each row of YtimmnieopifcbaaDoorRows.lean that lists a variable, with what it lists TIED to the program's text (the seventh form; the later family's looks); each row that meets fmt, with fmt's text TOLD by the authors' own Lean function (tested against real Go, not proved from fmt's source: count such statements apart). THE CARD IS WHAT COUNTS. Prove the row's statement (the work); the ties are given (YtimmnieopifcbaaDoorTie.lean); close each card by the builder's one call (the guide's Derived/Test/ToyasCard.lean, 'card_holds'). Laid BY PROGRAM, IN A SANDBOX (cutbox-door.mjs). By AI agents, Wed Nov 11 2026. No macro, syntax, notation, axiom, sorry.
-/
import Derived.Test.YtimmnieopifcbaaDoorRows
import GoSem.ClaimSeven
namespace Go.Proofs.YtimmnieopifcbaaDoor
namespace Rows

/-- THE TIED CARD OF 'portcullislaw14.WrapBack'. -/
def wrapBackCard : Claim7 := { stood := { row := wrapBackRow, standIns := [], harness := (true, "a5a2cab35c151129ab486fff4590f8b9f48b97e56978ce36153d1bbd29dc3257"), looks := false }, kinds := [], alts := [], laidByText := true, laidKinds := [.data], laidTests := true, laidLooks := .later }
def WrapBackCardSaid : Prop := Claim7.holds Tryd.pinned (.plain (OpenSpec.ofChange wrapBackSpec)) wrapBackCard

/-- THE TIED CARD OF 'portcullislaw14.WrapNone'. -/
def wrapNoneCard : Claim7 := { stood := { row := wrapNoneRow, standIns := [], harness := (true, "a5a2cab35c151129ab486fff4590f8b9f48b97e56978ce36153d1bbd29dc3257"), looks := false }, kinds := [], alts := [], laidByText := true, laidKinds := [.data], laidTests := true, laidLooks := .later }
def WrapNoneCardSaid : Prop := Claim7.holds Tryd.pinned (.plain (OpenSpec.ofChange wrapNoneSpec)) wrapNoneCard

/-- THE SECOND FORM's CARD OF 'portcullislaw14.WrapBack'. -/
def wrapBackUptoCard : Claim7 := { stood := { row := wrapBackUptoRow, standIns := [], harness := (true, "a5a2cab35c151129ab486fff4590f8b9f48b97e56978ce36153d1bbd29dc3257"), looks := false }, kinds := [], alts := [], laidByText := true, laidKinds := [.data], laidTests := true, laidLooks := .later }
def WrapBackUptoCardSaid : Prop := Claim7.holds Tryd.pinned (.plain (OpenSpec.upto wrapBackSpec)) wrapBackUptoCard

/-- THE SECOND FORM's CARD OF 'portcullislaw14.WrapNone'. -/
def wrapNoneUptoCard : Claim7 := { stood := { row := wrapNoneUptoRow, standIns := [], harness := (true, "a5a2cab35c151129ab486fff4590f8b9f48b97e56978ce36153d1bbd29dc3257"), looks := false }, kinds := [], alts := [], laidByText := true, laidKinds := [.data], laidTests := true, laidLooks := .later }
def WrapNoneUptoCardSaid : Prop := Claim7.holds Tryd.pinned (.plain (OpenSpec.upto wrapNoneSpec)) wrapNoneUptoCard
end Rows
end Go.Proofs.YtimmnieopifcbaaDoor
