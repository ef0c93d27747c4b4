/-
  DERIVED. GIVEN WITH THE SEED: THE CARDS: each row of YtcfmobgnlejpeaaDoorRows.lean that lists a variable, with what it lists TIED to the program's text (the seventh form; the later family's looks); each row that meets fmt, with fmt's text TOLD by the authors' own Lean function (tested against real Go, not proved from fmt's source: count such statements apart). THE CARD IS WHAT COUNTS. Prove the row's statement (the work); the ties are given (YtcfmobgnlejpeaaDoorTie.lean); close each card by the builder's one call (the guide's Derived/Test/ToyasCard.lean, 'card_holds'). Laid BY PROGRAM, IN A SANDBOX (cutbox-door.mjs). By AI agents, Wed Nov 11 2026. No macro, syntax, notation, axiom, sorry.
-/
import Derived.Test.YtcfmobgnlejpeaaDoorRows
import GoSem.ClaimSeven
namespace Go.Proofs.YtcfmobgnlejpeaaDoor
namespace Rows

/-- THE TIED CARD OF 'portcullislaw8.DeriveExpands'. -/
def deriveExpandsCard : Claim7 := { stood := { row := deriveExpandsRow, standIns := [], harness := (true, "4a0baaeef2331e99db80be008057f76bba22a96d30b0428fb9d14adc79b3ce78"), looks := false }, kinds := [], alts := [], laidByText := true, laidKinds := [.data, .data], laidTests := true, laidLooks := .later }
def DeriveExpandsCardSaid : Prop := Claim7.holds Tryd.pinned (.plain (OpenSpec.ofChange deriveExpandsSpec)) deriveExpandsCard

/-- THE TIED CARD OF 'portcullislaw8.DeriveKeys'. -/
def deriveKeysCard : Claim7 := { stood := { row := deriveKeysRow, standIns := [], harness := (true, "4a0baaeef2331e99db80be008057f76bba22a96d30b0428fb9d14adc79b3ce78"), looks := false }, kinds := [], alts := [], laidByText := true, laidKinds := [.data, .data], laidTests := true, laidLooks := .later }
def DeriveKeysCardSaid : Prop := Claim7.holds Tryd.pinned (.plain (OpenSpec.ofChange deriveKeysSpec)) deriveKeysCard

/-- THE TIED CARD OF 'portcullislaw8.DeriveBegins'. -/
def deriveBeginsCard : Claim7 := { stood := { row := deriveBeginsRow, standIns := [], harness := (true, "4a0baaeef2331e99db80be008057f76bba22a96d30b0428fb9d14adc79b3ce78"), looks := false }, kinds := [], alts := [], laidByText := true, laidKinds := [.data, .data], laidTests := true, laidLooks := .later }
def DeriveBeginsCardSaid : Prop := Claim7.holds Tryd.pinned (.plain (OpenSpec.ofChange deriveBeginsSpec)) deriveBeginsCard

/-- THE TIED CARD OF 'portcullislaw8.DeriveMade'. -/
def deriveMadeCard : Claim7 := { stood := { row := deriveMadeRow, standIns := [], harness := (true, "4a0baaeef2331e99db80be008057f76bba22a96d30b0428fb9d14adc79b3ce78"), looks := false }, kinds := [], alts := [], laidByText := true, laidKinds := [.data, .data], laidTests := true, laidLooks := .later }
def DeriveMadeCardSaid : Prop := Claim7.holds Tryd.pinned (.plain (OpenSpec.ofChange deriveMadeSpec)) deriveMadeCard

/-- THE TIED CARD OF 'portcullislaw8.DeriveSalts'. -/
def deriveSaltsCard : Claim7 := { stood := { row := deriveSaltsRow, standIns := [], harness := (true, "4a0baaeef2331e99db80be008057f76bba22a96d30b0428fb9d14adc79b3ce78"), looks := false }, kinds := [], alts := [], laidByText := true, laidKinds := [.data, .data], laidTests := true, laidLooks := .later }
def DeriveSaltsCardSaid : Prop := Claim7.holds Tryd.pinned (.plain (OpenSpec.ofChange deriveSaltsSpec)) deriveSaltsCard

/-- THE TIED CARD OF 'portcullislaw8.DeriveMost'. -/
def deriveMostCard : Claim7 := { stood := { row := deriveMostRow, standIns := [], harness := (true, "4a0baaeef2331e99db80be008057f76bba22a96d30b0428fb9d14adc79b3ce78"), looks := false }, kinds := [], alts := [], laidByText := true, laidKinds := [.data, .data], laidTests := true, laidLooks := .later }
def DeriveMostCardSaid : Prop := Claim7.holds Tryd.pinned (.plain (OpenSpec.ofChange deriveMostSpec)) deriveMostCard

/-- THE SECOND FORM's CARD OF 'portcullislaw8.DeriveExpands'. -/
def deriveExpandsUptoCard : Claim7 := { stood := { row := deriveExpandsUptoRow, standIns := [], harness := (true, "4a0baaeef2331e99db80be008057f76bba22a96d30b0428fb9d14adc79b3ce78"), looks := false }, kinds := [], alts := [], laidByText := true, laidKinds := [.data, .data], laidTests := true, laidLooks := .later }
def DeriveExpandsUptoCardSaid : Prop := Claim7.holds Tryd.pinned (.plain (OpenSpec.upto deriveExpandsSpec)) deriveExpandsUptoCard

/-- THE SECOND FORM's CARD OF 'portcullislaw8.DeriveKeys'. -/
def deriveKeysUptoCard : Claim7 := { stood := { row := deriveKeysUptoRow, standIns := [], harness := (true, "4a0baaeef2331e99db80be008057f76bba22a96d30b0428fb9d14adc79b3ce78"), looks := false }, kinds := [], alts := [], laidByText := true, laidKinds := [.data, .data], laidTests := true, laidLooks := .later }
def DeriveKeysUptoCardSaid : Prop := Claim7.holds Tryd.pinned (.plain (OpenSpec.upto deriveKeysSpec)) deriveKeysUptoCard

/-- THE SECOND FORM's CARD OF 'portcullislaw8.DeriveBegins'. -/
def deriveBeginsUptoCard : Claim7 := { stood := { row := deriveBeginsUptoRow, standIns := [], harness := (true, "4a0baaeef2331e99db80be008057f76bba22a96d30b0428fb9d14adc79b3ce78"), looks := false }, kinds := [], alts := [], laidByText := true, laidKinds := [.data, .data], laidTests := true, laidLooks := .later }
def DeriveBeginsUptoCardSaid : Prop := Claim7.holds Tryd.pinned (.plain (OpenSpec.upto deriveBeginsSpec)) deriveBeginsUptoCard

/-- THE SECOND FORM's CARD OF 'portcullislaw8.DeriveMade'. -/
def deriveMadeUptoCard : Claim7 := { stood := { row := deriveMadeUptoRow, standIns := [], harness := (true, "4a0baaeef2331e99db80be008057f76bba22a96d30b0428fb9d14adc79b3ce78"), looks := false }, kinds := [], alts := [], laidByText := true, laidKinds := [.data, .data], laidTests := true, laidLooks := .later }
def DeriveMadeUptoCardSaid : Prop := Claim7.holds Tryd.pinned (.plain (OpenSpec.upto deriveMadeSpec)) deriveMadeUptoCard

/-- THE SECOND FORM's CARD OF 'portcullislaw8.DeriveSalts'. -/
def deriveSaltsUptoCard : Claim7 := { stood := { row := deriveSaltsUptoRow, standIns := [], harness := (true, "4a0baaeef2331e99db80be008057f76bba22a96d30b0428fb9d14adc79b3ce78"), looks := false }, kinds := [], alts := [], laidByText := true, laidKinds := [.data, .data], laidTests := true, laidLooks := .later }
def DeriveSaltsUptoCardSaid : Prop := Claim7.holds Tryd.pinned (.plain (OpenSpec.upto deriveSaltsSpec)) deriveSaltsUptoCard

/-- THE SECOND FORM's CARD OF 'portcullislaw8.DeriveMost'. -/
def deriveMostUptoCard : Claim7 := { stood := { row := deriveMostUptoRow, standIns := [], harness := (true, "4a0baaeef2331e99db80be008057f76bba22a96d30b0428fb9d14adc79b3ce78"), looks := false }, kinds := [], alts := [], laidByText := true, laidKinds := [.data, .data], laidTests := true, laidLooks := .later }
def DeriveMostUptoCardSaid : Prop := Claim7.holds Tryd.pinned (.plain (OpenSpec.upto deriveMostSpec)) deriveMostUptoCard
end Rows
end Go.Proofs.YtcfmobgnlejpeaaDoor
