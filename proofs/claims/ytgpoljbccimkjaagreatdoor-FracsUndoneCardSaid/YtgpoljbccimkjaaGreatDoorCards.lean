/-
  DERIVED. GIVEN WITH THE SEED: THE CARDS: each row of YtgpoljbccimkjaaGreatDoorRows.lean that lists a variable, with what it lists TIED to the program's text (the seventh form; the later family's looks); each row that meets fmt, with fmt's text TOLD by the authors' own Lean function (tested against real Go, not proved from fmt's source: count such statements apart). THE CARD IS WHAT COUNTS. Prove the row's statement (the work); the ties are given (YtgpoljbccimkjaaGreatDoorTie.lean); close each card by the builder's one call (the guide's Derived/Test/ToyasCard.lean, 'card_holds'). Laid BY PROGRAM, IN A SANDBOX (cutbox-door.mjs). By AI agents, Wed Nov 11 2026. No macro, syntax, notation, axiom, sorry.
-/
import Derived.Test.YtgpoljbccimkjaaGreatDoorRows
import GoSem.ClaimSeven
namespace Go.Proofs.YtgpoljbccimkjaaGreatDoor
namespace Rows

/-- THE TIED CARD OF 'reckonerlaw01.LimbsDivs'. -/
def limbsDivsCard : Claim7 := { stood := { row := limbsDivsRow, standIns := [], harness := (true, "561416062f16f7f888b09d7c9297bbc8e35d54969f02e008960695522adad78a"), looks := false }, kinds := [], alts := [], laidByText := true, laidKinds := [.data, .data, .data], laidTests := true, laidLooks := .later }
def LimbsDivsCardSaid : Prop := Claim7.holds Tryz.pinned (.plain (OpenSpec.ofChange limbsDivsSpec)) limbsDivsCard

/-- THE TIED CARD OF 'reckonerlaw01.LimbsTexts'. -/
def limbsTextsCard : Claim7 := { stood := { row := limbsTextsRow, standIns := [], harness := (true, "561416062f16f7f888b09d7c9297bbc8e35d54969f02e008960695522adad78a"), looks := false }, kinds := [], alts := [], laidByText := true, laidKinds := [.data, .data, .data], laidTests := true, laidLooks := .later }
def LimbsTextsCardSaid : Prop := Claim7.holds Tryz.pinned (.plain (OpenSpec.ofChange limbsTextsSpec)) limbsTextsCard

/-- THE TIED CARD OF 'reckonerlaw02.FracsPairs'. -/
def fracsPairsCard : Claim7 := { stood := { row := fracsPairsRow, standIns := [], harness := (true, "561416062f16f7f888b09d7c9297bbc8e35d54969f02e008960695522adad78a"), looks := false }, kinds := [], alts := [], laidByText := true, laidKinds := [.data, .data, .data], laidTests := true, laidLooks := .later }
def FracsPairsCardSaid : Prop := Claim7.holds Tryz.pinned (.plain (OpenSpec.ofChange fracsPairsSpec)) fracsPairsCard

/-- THE TIED CARD OF 'reckonerlaw02.FracsMakes'. -/
def fracsMakesCard : Claim7 := { stood := { row := fracsMakesRow, standIns := [], harness := (true, "561416062f16f7f888b09d7c9297bbc8e35d54969f02e008960695522adad78a"), looks := false }, kinds := [], alts := [], laidByText := true, laidKinds := [.data, .data, .data], laidTests := true, laidLooks := .later }
def FracsMakesCardSaid : Prop := Claim7.holds Tryz.pinned (.plain (OpenSpec.ofChange fracsMakesSpec)) fracsMakesCard

/-- THE TIED CARD OF 'reckonerlaw02.FracsTexts'. -/
def fracsTextsCard : Claim7 := { stood := { row := fracsTextsRow, standIns := [], harness := (true, "561416062f16f7f888b09d7c9297bbc8e35d54969f02e008960695522adad78a"), looks := false }, kinds := [], alts := [], laidByText := true, laidKinds := [.data, .data, .data], laidTests := true, laidLooks := .later }
def FracsTextsCardSaid : Prop := Claim7.holds Tryz.pinned (.plain (OpenSpec.ofChange fracsTextsSpec)) fracsTextsCard

/-- THE TIED CARD OF 'reckonerlaw02.FracsField'. -/
def fracsFieldCard : Claim7 := { stood := { row := fracsFieldRow, standIns := [], harness := (true, "561416062f16f7f888b09d7c9297bbc8e35d54969f02e008960695522adad78a"), looks := false }, kinds := [], alts := [], laidByText := true, laidKinds := [.data, .data, .data], laidTests := true, laidLooks := .later }
def FracsFieldCardSaid : Prop := Claim7.holds Tryz.pinned (.plain (OpenSpec.ofChange fracsFieldSpec)) fracsFieldCard

/-- THE TIED CARD OF 'reckonerlaw02.FracsUndone'. -/
def fracsUndoneCard : Claim7 := { stood := { row := fracsUndoneRow, standIns := [], harness := (true, "561416062f16f7f888b09d7c9297bbc8e35d54969f02e008960695522adad78a"), looks := false }, kinds := [], alts := [], laidByText := true, laidKinds := [.data, .data, .data], laidTests := true, laidLooks := .later }
def FracsUndoneCardSaid : Prop := Claim7.holds Tryz.pinned (.plain (OpenSpec.ofChange fracsUndoneSpec)) fracsUndoneCard

/-- THE TIED CARD OF 'reckonerlaw02.FracsOrder'. -/
def fracsOrderCard : Claim7 := { stood := { row := fracsOrderRow, standIns := [], harness := (true, "561416062f16f7f888b09d7c9297bbc8e35d54969f02e008960695522adad78a"), looks := false }, kinds := [], alts := [], laidByText := true, laidKinds := [.data, .data, .data], laidTests := true, laidLooks := .later }
def FracsOrderCardSaid : Prop := Claim7.holds Tryz.pinned (.plain (OpenSpec.ofChange fracsOrderSpec)) fracsOrderCard

/-- THE TIED CARD OF 'reckonerlaw02.FracsMade'. -/
def fracsMadeCard : Claim7 := { stood := { row := fracsMadeRow, standIns := [], harness := (true, "561416062f16f7f888b09d7c9297bbc8e35d54969f02e008960695522adad78a"), looks := false }, kinds := [], alts := [], laidByText := true, laidKinds := [.data, .data, .data], laidTests := true, laidLooks := .later }
def FracsMadeCardSaid : Prop := Claim7.holds Tryz.pinned (.plain (OpenSpec.ofChange fracsMadeSpec)) fracsMadeCard

/-- THE TIED CARD OF 'reckonerlaw02.FracsRead'. -/
def fracsReadCard : Claim7 := { stood := { row := fracsReadRow, standIns := [], harness := (true, "561416062f16f7f888b09d7c9297bbc8e35d54969f02e008960695522adad78a"), looks := false }, kinds := [], alts := [], laidByText := true, laidKinds := [.data, .data, .data], laidTests := true, laidLooks := .later }
def FracsReadCardSaid : Prop := Claim7.holds Tryz.pinned (.plain (OpenSpec.ofChange fracsReadSpec)) fracsReadCard

/-- THE TIED CARD OF 'reckonerlaw02.FracsSmall'. -/
def fracsSmallCard : Claim7 := { stood := { row := fracsSmallRow, standIns := [], harness := (true, "561416062f16f7f888b09d7c9297bbc8e35d54969f02e008960695522adad78a"), looks := false }, kinds := [], alts := [], laidByText := true, laidKinds := [.data, .data, .data], laidTests := true, laidLooks := .later }
def FracsSmallCardSaid : Prop := Claim7.holds Tryz.pinned (.plain (OpenSpec.ofChange fracsSmallSpec)) fracsSmallCard

/-- THE SECOND FORM's CARD OF 'reckonerlaw01.LimbsDivs'. -/
def limbsDivsUptoCard : Claim7 := { stood := { row := limbsDivsUptoRow, standIns := [], harness := (true, "561416062f16f7f888b09d7c9297bbc8e35d54969f02e008960695522adad78a"), looks := false }, kinds := [], alts := [], laidByText := true, laidKinds := [.data, .data, .data], laidTests := true, laidLooks := .later }
def LimbsDivsUptoCardSaid : Prop := Claim7.holds Tryz.pinned (.plain (OpenSpec.upto limbsDivsSpec)) limbsDivsUptoCard

/-- THE SECOND FORM's CARD OF 'reckonerlaw01.LimbsTexts'. -/
def limbsTextsUptoCard : Claim7 := { stood := { row := limbsTextsUptoRow, standIns := [], harness := (true, "561416062f16f7f888b09d7c9297bbc8e35d54969f02e008960695522adad78a"), looks := false }, kinds := [], alts := [], laidByText := true, laidKinds := [.data, .data, .data], laidTests := true, laidLooks := .later }
def LimbsTextsUptoCardSaid : Prop := Claim7.holds Tryz.pinned (.plain (OpenSpec.upto limbsTextsSpec)) limbsTextsUptoCard

/-- THE SECOND FORM's CARD OF 'reckonerlaw02.FracsPairs'. -/
def fracsPairsUptoCard : Claim7 := { stood := { row := fracsPairsUptoRow, standIns := [], harness := (true, "561416062f16f7f888b09d7c9297bbc8e35d54969f02e008960695522adad78a"), looks := false }, kinds := [], alts := [], laidByText := true, laidKinds := [.data, .data, .data], laidTests := true, laidLooks := .later }
def FracsPairsUptoCardSaid : Prop := Claim7.holds Tryz.pinned (.plain (OpenSpec.upto fracsPairsSpec)) fracsPairsUptoCard

/-- THE SECOND FORM's CARD OF 'reckonerlaw02.FracsMakes'. -/
def fracsMakesUptoCard : Claim7 := { stood := { row := fracsMakesUptoRow, standIns := [], harness := (true, "561416062f16f7f888b09d7c9297bbc8e35d54969f02e008960695522adad78a"), looks := false }, kinds := [], alts := [], laidByText := true, laidKinds := [.data, .data, .data], laidTests := true, laidLooks := .later }
def FracsMakesUptoCardSaid : Prop := Claim7.holds Tryz.pinned (.plain (OpenSpec.upto fracsMakesSpec)) fracsMakesUptoCard

/-- THE SECOND FORM's CARD OF 'reckonerlaw02.FracsTexts'. -/
def fracsTextsUptoCard : Claim7 := { stood := { row := fracsTextsUptoRow, standIns := [], harness := (true, "561416062f16f7f888b09d7c9297bbc8e35d54969f02e008960695522adad78a"), looks := false }, kinds := [], alts := [], laidByText := true, laidKinds := [.data, .data, .data], laidTests := true, laidLooks := .later }
def FracsTextsUptoCardSaid : Prop := Claim7.holds Tryz.pinned (.plain (OpenSpec.upto fracsTextsSpec)) fracsTextsUptoCard

/-- THE SECOND FORM's CARD OF 'reckonerlaw02.FracsField'. -/
def fracsFieldUptoCard : Claim7 := { stood := { row := fracsFieldUptoRow, standIns := [], harness := (true, "561416062f16f7f888b09d7c9297bbc8e35d54969f02e008960695522adad78a"), looks := false }, kinds := [], alts := [], laidByText := true, laidKinds := [.data, .data, .data], laidTests := true, laidLooks := .later }
def FracsFieldUptoCardSaid : Prop := Claim7.holds Tryz.pinned (.plain (OpenSpec.upto fracsFieldSpec)) fracsFieldUptoCard

/-- THE SECOND FORM's CARD OF 'reckonerlaw02.FracsUndone'. -/
def fracsUndoneUptoCard : Claim7 := { stood := { row := fracsUndoneUptoRow, standIns := [], harness := (true, "561416062f16f7f888b09d7c9297bbc8e35d54969f02e008960695522adad78a"), looks := false }, kinds := [], alts := [], laidByText := true, laidKinds := [.data, .data, .data], laidTests := true, laidLooks := .later }
def FracsUndoneUptoCardSaid : Prop := Claim7.holds Tryz.pinned (.plain (OpenSpec.upto fracsUndoneSpec)) fracsUndoneUptoCard

/-- THE SECOND FORM's CARD OF 'reckonerlaw02.FracsOrder'. -/
def fracsOrderUptoCard : Claim7 := { stood := { row := fracsOrderUptoRow, standIns := [], harness := (true, "561416062f16f7f888b09d7c9297bbc8e35d54969f02e008960695522adad78a"), looks := false }, kinds := [], alts := [], laidByText := true, laidKinds := [.data, .data, .data], laidTests := true, laidLooks := .later }
def FracsOrderUptoCardSaid : Prop := Claim7.holds Tryz.pinned (.plain (OpenSpec.upto fracsOrderSpec)) fracsOrderUptoCard

/-- THE SECOND FORM's CARD OF 'reckonerlaw02.FracsMade'. -/
def fracsMadeUptoCard : Claim7 := { stood := { row := fracsMadeUptoRow, standIns := [], harness := (true, "561416062f16f7f888b09d7c9297bbc8e35d54969f02e008960695522adad78a"), looks := false }, kinds := [], alts := [], laidByText := true, laidKinds := [.data, .data, .data], laidTests := true, laidLooks := .later }
def FracsMadeUptoCardSaid : Prop := Claim7.holds Tryz.pinned (.plain (OpenSpec.upto fracsMadeSpec)) fracsMadeUptoCard

/-- THE SECOND FORM's CARD OF 'reckonerlaw02.FracsRead'. -/
def fracsReadUptoCard : Claim7 := { stood := { row := fracsReadUptoRow, standIns := [], harness := (true, "561416062f16f7f888b09d7c9297bbc8e35d54969f02e008960695522adad78a"), looks := false }, kinds := [], alts := [], laidByText := true, laidKinds := [.data, .data, .data], laidTests := true, laidLooks := .later }
def FracsReadUptoCardSaid : Prop := Claim7.holds Tryz.pinned (.plain (OpenSpec.upto fracsReadSpec)) fracsReadUptoCard

/-- THE SECOND FORM's CARD OF 'reckonerlaw02.FracsSmall'. -/
def fracsSmallUptoCard : Claim7 := { stood := { row := fracsSmallUptoRow, standIns := [], harness := (true, "561416062f16f7f888b09d7c9297bbc8e35d54969f02e008960695522adad78a"), looks := false }, kinds := [], alts := [], laidByText := true, laidKinds := [.data, .data, .data], laidTests := true, laidLooks := .later }
def FracsSmallUptoCardSaid : Prop := Claim7.holds Tryz.pinned (.plain (OpenSpec.upto fracsSmallSpec)) fracsSmallUptoCard
end Rows
end Go.Proofs.YtgpoljbccimkjaaGreatDoor
