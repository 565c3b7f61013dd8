/-
  DERIVED. GIVEN WITH THE SEED: THE CARDS: each row of YteagmbgmpnfccaaGreatDoorRows.lean that lists a variable, with what it lists TIED to the program's text (the seventh form; the later family's looks); each row that meets fmt, with fmt's text TOLD by the authors' own Lean function (tested against real Go, not proved from fmt's source: count such statements apart). THE CARD IS WHAT COUNTS. Prove the row's statement (the work); the ties are given (YteagmbgmpnfccaaGreatDoorTie.lean); close each card by the builder's one call (the guide's Derived/Test/ToyasCard.lean, 'card_holds'). Laid BY PROGRAM, IN A SANDBOX (cutbox-door.mjs). By AI agents, Wed Nov 11 2026. No macro, syntax, notation, axiom, sorry.
-/
import Derived.Test.YteagmbgmpnfccaaGreatDoorRows
import GoSem.ClaimSeven
namespace Go.Proofs.YteagmbgmpnfccaaGreatDoor
namespace Rows

/-- THE TIED CARD OF 'reckonerlaw01.LimbsPairs'. -/
def limbsPairsCard : Claim7 := { stood := { row := limbsPairsRow, standIns := [], harness := (true, "fa47890d98cb3a46d4bf4ecedaa722edabec74c5589d8c56f51ca9ff4925ecc8"), looks := false }, kinds := [], alts := [], laidByText := true, laidKinds := [.data, .data, .data], laidTests := true, laidLooks := .later }
def LimbsPairsCardSaid : Prop := Claim7.holds Tryz.pinned (.plain (OpenSpec.ofChange limbsPairsSpec)) limbsPairsCard

/-- THE TIED CARD OF 'reckonerlaw01.LimbsDivs'. -/
def limbsDivsCard : Claim7 := { stood := { row := limbsDivsRow, standIns := [], harness := (true, "fa47890d98cb3a46d4bf4ecedaa722edabec74c5589d8c56f51ca9ff4925ecc8"), looks := false }, kinds := [], alts := [], laidByText := true, laidKinds := [.data, .data, .data], laidTests := true, laidLooks := .later }
def LimbsDivsCardSaid : Prop := Claim7.holds Tryz.pinned (.plain (OpenSpec.ofChange limbsDivsSpec)) limbsDivsCard

/-- THE TIED CARD OF 'reckonerlaw01.LimbsTexts'. -/
def limbsTextsCard : Claim7 := { stood := { row := limbsTextsRow, standIns := [], harness := (true, "fa47890d98cb3a46d4bf4ecedaa722edabec74c5589d8c56f51ca9ff4925ecc8"), looks := false }, kinds := [], alts := [], laidByText := true, laidKinds := [.data, .data, .data], laidTests := true, laidLooks := .later }
def LimbsTextsCardSaid : Prop := Claim7.holds Tryz.pinned (.plain (OpenSpec.ofChange limbsTextsSpec)) limbsTextsCard

/-- THE TIED CARD OF 'reckonerlaw02.FracsPairs'. -/
def fracsPairsCard : Claim7 := { stood := { row := fracsPairsRow, standIns := [], harness := (true, "fa47890d98cb3a46d4bf4ecedaa722edabec74c5589d8c56f51ca9ff4925ecc8"), looks := false }, kinds := [], alts := [], laidByText := true, laidKinds := [.data, .data, .data], laidTests := true, laidLooks := .later }
def FracsPairsCardSaid : Prop := Claim7.holds Tryz.pinned (.plain (OpenSpec.ofChange fracsPairsSpec)) fracsPairsCard

/-- THE TIED CARD OF 'reckonerlaw02.FracsMakes'. -/
def fracsMakesCard : Claim7 := { stood := { row := fracsMakesRow, standIns := [], harness := (true, "fa47890d98cb3a46d4bf4ecedaa722edabec74c5589d8c56f51ca9ff4925ecc8"), looks := false }, kinds := [], alts := [], laidByText := true, laidKinds := [.data, .data, .data], laidTests := true, laidLooks := .later }
def FracsMakesCardSaid : Prop := Claim7.holds Tryz.pinned (.plain (OpenSpec.ofChange fracsMakesSpec)) fracsMakesCard

/-- THE TIED CARD OF 'reckonerlaw02.FracsTexts'. -/
def fracsTextsCard : Claim7 := { stood := { row := fracsTextsRow, standIns := [], harness := (true, "fa47890d98cb3a46d4bf4ecedaa722edabec74c5589d8c56f51ca9ff4925ecc8"), looks := false }, kinds := [], alts := [], laidByText := true, laidKinds := [.data, .data, .data], laidTests := true, laidLooks := .later }
def FracsTextsCardSaid : Prop := Claim7.holds Tryz.pinned (.plain (OpenSpec.ofChange fracsTextsSpec)) fracsTextsCard

/-- THE SECOND FORM's CARD OF 'reckonerlaw01.LimbsPairs'. -/
def limbsPairsUptoCard : Claim7 := { stood := { row := limbsPairsUptoRow, standIns := [], harness := (true, "fa47890d98cb3a46d4bf4ecedaa722edabec74c5589d8c56f51ca9ff4925ecc8"), looks := false }, kinds := [], alts := [], laidByText := true, laidKinds := [.data, .data, .data], laidTests := true, laidLooks := .later }
def LimbsPairsUptoCardSaid : Prop := Claim7.holds Tryz.pinned (.plain (OpenSpec.upto limbsPairsSpec)) limbsPairsUptoCard

/-- THE SECOND FORM's CARD OF 'reckonerlaw01.LimbsDivs'. -/
def limbsDivsUptoCard : Claim7 := { stood := { row := limbsDivsUptoRow, standIns := [], harness := (true, "fa47890d98cb3a46d4bf4ecedaa722edabec74c5589d8c56f51ca9ff4925ecc8"), looks := false }, kinds := [], alts := [], laidByText := true, laidKinds := [.data, .data, .data], laidTests := true, laidLooks := .later }
def LimbsDivsUptoCardSaid : Prop := Claim7.holds Tryz.pinned (.plain (OpenSpec.upto limbsDivsSpec)) limbsDivsUptoCard

/-- THE SECOND FORM's CARD OF 'reckonerlaw01.LimbsTexts'. -/
def limbsTextsUptoCard : Claim7 := { stood := { row := limbsTextsUptoRow, standIns := [], harness := (true, "fa47890d98cb3a46d4bf4ecedaa722edabec74c5589d8c56f51ca9ff4925ecc8"), looks := false }, kinds := [], alts := [], laidByText := true, laidKinds := [.data, .data, .data], laidTests := true, laidLooks := .later }
def LimbsTextsUptoCardSaid : Prop := Claim7.holds Tryz.pinned (.plain (OpenSpec.upto limbsTextsSpec)) limbsTextsUptoCard

/-- THE SECOND FORM's CARD OF 'reckonerlaw02.FracsPairs'. -/
def fracsPairsUptoCard : Claim7 := { stood := { row := fracsPairsUptoRow, standIns := [], harness := (true, "fa47890d98cb3a46d4bf4ecedaa722edabec74c5589d8c56f51ca9ff4925ecc8"), looks := false }, kinds := [], alts := [], laidByText := true, laidKinds := [.data, .data, .data], laidTests := true, laidLooks := .later }
def FracsPairsUptoCardSaid : Prop := Claim7.holds Tryz.pinned (.plain (OpenSpec.upto fracsPairsSpec)) fracsPairsUptoCard

/-- THE SECOND FORM's CARD OF 'reckonerlaw02.FracsMakes'. -/
def fracsMakesUptoCard : Claim7 := { stood := { row := fracsMakesUptoRow, standIns := [], harness := (true, "fa47890d98cb3a46d4bf4ecedaa722edabec74c5589d8c56f51ca9ff4925ecc8"), looks := false }, kinds := [], alts := [], laidByText := true, laidKinds := [.data, .data, .data], laidTests := true, laidLooks := .later }
def FracsMakesUptoCardSaid : Prop := Claim7.holds Tryz.pinned (.plain (OpenSpec.upto fracsMakesSpec)) fracsMakesUptoCard

/-- THE SECOND FORM's CARD OF 'reckonerlaw02.FracsTexts'. -/
def fracsTextsUptoCard : Claim7 := { stood := { row := fracsTextsUptoRow, standIns := [], harness := (true, "fa47890d98cb3a46d4bf4ecedaa722edabec74c5589d8c56f51ca9ff4925ecc8"), looks := false }, kinds := [], alts := [], laidByText := true, laidKinds := [.data, .data, .data], laidTests := true, laidLooks := .later }
def FracsTextsUptoCardSaid : Prop := Claim7.holds Tryz.pinned (.plain (OpenSpec.upto fracsTextsSpec)) fracsTextsUptoCard
end Rows
end Go.Proofs.YteagmbgmpnfccaaGreatDoor
