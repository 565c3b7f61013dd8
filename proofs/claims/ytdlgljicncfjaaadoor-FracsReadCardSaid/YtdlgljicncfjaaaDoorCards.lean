/-
  DERIVED. GIVEN WITH THE SEED: THE CARDS: each row of YtdlgljicncfjaaaDoorRows.lean that lists a variable, with what it lists TIED to the program's text (the seventh form; the later family's looks); each row that meets fmt, with fmt's text TOLD by the authors' own Lean function (tested against real Go, not proved from fmt's source: count such statements apart). THE CARD IS WHAT COUNTS. Prove the row's statement (the work); the ties are given (YtdlgljicncfjaaaDoorTie.lean); close each card by the builder's one call (the guide's Derived/Test/ToyasCard.lean, 'card_holds'). Laid BY PROGRAM, IN A SANDBOX (cutbox-door.mjs). By AI agents, Wed Nov 11 2026. No macro, syntax, notation, axiom, sorry.
-/
import Derived.Test.YtdlgljicncfjaaaDoorRows
import GoSem.ClaimSeven
namespace Go.Proofs.YtdlgljicncfjaaaDoor
namespace Rows

/-- THE TIED CARD OF 'reckonerlaw02.FracsMade'. -/
def fracsMadeCard : Claim7 := { stood := { row := fracsMadeRow, standIns := [], harness := (true, "40e11295371c3c02ae93e9c994cf283514978c40a575e84e6e60210fd56f94c4"), looks := false }, kinds := [], alts := [], laidByText := true, laidKinds := [.data, .data, .data], laidTests := true, laidLooks := .later }
def FracsMadeCardSaid : Prop := Claim7.holds Tryd.pinned (.plain (OpenSpec.ofChange fracsMadeSpec)) fracsMadeCard

/-- THE TIED CARD OF 'reckonerlaw02.FracsRead'. -/
def fracsReadCard : Claim7 := { stood := { row := fracsReadRow, standIns := [], harness := (true, "40e11295371c3c02ae93e9c994cf283514978c40a575e84e6e60210fd56f94c4"), looks := false }, kinds := [], alts := [], laidByText := true, laidKinds := [.data, .data, .data], laidTests := true, laidLooks := .later }
def FracsReadCardSaid : Prop := Claim7.holds Tryd.pinned (.plain (OpenSpec.ofChange fracsReadSpec)) fracsReadCard

/-- THE SECOND FORM's CARD OF 'reckonerlaw02.FracsMade'. -/
def fracsMadeUptoCard : Claim7 := { stood := { row := fracsMadeUptoRow, standIns := [], harness := (true, "40e11295371c3c02ae93e9c994cf283514978c40a575e84e6e60210fd56f94c4"), looks := false }, kinds := [], alts := [], laidByText := true, laidKinds := [.data, .data, .data], laidTests := true, laidLooks := .later }
def FracsMadeUptoCardSaid : Prop := Claim7.holds Tryd.pinned (.plain (OpenSpec.upto fracsMadeSpec)) fracsMadeUptoCard

/-- THE SECOND FORM's CARD OF 'reckonerlaw02.FracsRead'. -/
def fracsReadUptoCard : Claim7 := { stood := { row := fracsReadUptoRow, standIns := [], harness := (true, "40e11295371c3c02ae93e9c994cf283514978c40a575e84e6e60210fd56f94c4"), looks := false }, kinds := [], alts := [], laidByText := true, laidKinds := [.data, .data, .data], laidTests := true, laidLooks := .later }
def FracsReadUptoCardSaid : Prop := Claim7.holds Tryd.pinned (.plain (OpenSpec.upto fracsReadSpec)) fracsReadUptoCard
end Rows
end Go.Proofs.YtdlgljicncfjaaaDoor
