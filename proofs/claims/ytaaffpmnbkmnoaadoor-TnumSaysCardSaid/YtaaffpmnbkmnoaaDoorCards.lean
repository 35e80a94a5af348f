/-
  DERIVED. GIVEN WITH THE SEED: THE CARDS: each row of YtaaffpmnbkmnoaaDoorRows.lean that lists a variable, with what it lists TIED to the program's text (the seventh form; the later family's looks); each row that meets fmt, with fmt's text TOLD by the authors' own Lean function (tested against real Go, not proved from fmt's source: count such statements apart). THE CARD IS WHAT COUNTS. Prove the row's statement (the work); the ties are given (YtaaffpmnbkmnoaaDoorTie.lean); close each card by the builder's one call (the guide's Derived/Test/ToyasCard.lean, 'card_holds'). Laid BY PROGRAM, IN A SANDBOX (cutbox-door.mjs). By AI agents, Wed Nov 11 2026. No macro, syntax, notation, axiom, sorry.
-/
import Derived.Test.YtaaffpmnbkmnoaaDoorRows
import GoSem.ClaimSeven
namespace Go.Proofs.YtaaffpmnbkmnoaaDoor
namespace Rows

/-- THE TIED CARD OF 'crossbarlaw03.TnumSays'. -/
def tnumSaysCard : Claim7 := { stood := { row := tnumSaysRow, standIns := [], harness := (true, "ccdc487d3e45ea663bef1476e5af86805a03593a20dac1d6a6aeb8e3f8767945"), looks := false }, kinds := [], alts := [], laidByText := true, laidKinds := [.data], laidTests := true, laidLooks := .later }
def TnumSaysCardSaid : Prop := Claim7.holds Tryd.pinned (.plain (OpenSpec.ofChange tnumSaysSpec)) tnumSaysCard

/-- THE TIED CARD OF 'crossbarlaw03.TnumKnown'. -/
def tnumKnownCard : Claim7 := { stood := { row := tnumKnownRow, standIns := [], harness := (true, "ccdc487d3e45ea663bef1476e5af86805a03593a20dac1d6a6aeb8e3f8767945"), looks := false }, kinds := [], alts := [], laidByText := true, laidKinds := [.data], laidTests := true, laidLooks := .later }
def TnumKnownCardSaid : Prop := Claim7.holds Tryd.pinned (.plain (OpenSpec.ofChange tnumKnownSpec)) tnumKnownCard

/-- THE SECOND FORM's CARD OF 'crossbarlaw03.TnumSays'. -/
def tnumSaysUptoCard : Claim7 := { stood := { row := tnumSaysUptoRow, standIns := [], harness := (true, "ccdc487d3e45ea663bef1476e5af86805a03593a20dac1d6a6aeb8e3f8767945"), looks := false }, kinds := [], alts := [], laidByText := true, laidKinds := [.data], laidTests := true, laidLooks := .later }
def TnumSaysUptoCardSaid : Prop := Claim7.holds Tryd.pinned (.plain (OpenSpec.upto tnumSaysSpec)) tnumSaysUptoCard

/-- THE SECOND FORM's CARD OF 'crossbarlaw03.TnumKnown'. -/
def tnumKnownUptoCard : Claim7 := { stood := { row := tnumKnownUptoRow, standIns := [], harness := (true, "ccdc487d3e45ea663bef1476e5af86805a03593a20dac1d6a6aeb8e3f8767945"), looks := false }, kinds := [], alts := [], laidByText := true, laidKinds := [.data], laidTests := true, laidLooks := .later }
def TnumKnownUptoCardSaid : Prop := Claim7.holds Tryd.pinned (.plain (OpenSpec.upto tnumKnownSpec)) tnumKnownUptoCard
end Rows
end Go.Proofs.YtaaffpmnbkmnoaaDoor
