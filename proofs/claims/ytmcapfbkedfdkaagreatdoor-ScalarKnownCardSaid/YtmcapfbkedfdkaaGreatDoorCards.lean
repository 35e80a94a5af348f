/-
  DERIVED. GIVEN WITH THE SEED: THE CARDS: each row of YtmcapfbkedfdkaaGreatDoorRows.lean that lists a variable, with what it lists TIED to the program's text (the seventh form; the later family's looks); each row that meets fmt, with fmt's text TOLD by the authors' own Lean function (tested against real Go, not proved from fmt's source: count such statements apart). THE CARD IS WHAT COUNTS. Prove the row's statement (the work); the ties are given (YtmcapfbkedfdkaaGreatDoorTie.lean); close each card by the builder's one call (the guide's Derived/Test/ToyasCard.lean, 'card_holds'). Laid BY PROGRAM, IN A SANDBOX (cutbox-door.mjs). By AI agents, Wed Nov 11 2026. No macro, syntax, notation, axiom, sorry.
-/
import Derived.Test.YtmcapfbkedfdkaaGreatDoorRows
import GoSem.ClaimSeven
namespace Go.Proofs.YtmcapfbkedfdkaaGreatDoor
namespace Rows

/-- THE TIED CARD OF 'crossbarlaw05.ScalarKnown'. -/
def scalarKnownCard : Claim7 := { stood := { row := scalarKnownRow, standIns := [], harness := (true, "cebbeb4b8e1dfe45c6d4d0bfffa3e200fdbeba5851fdf2bfc0b045efb9c36c6a"), looks := false }, kinds := [], alts := [], laidByText := true, laidKinds := [.data], laidTests := true, laidLooks := .later }
def ScalarKnownCardSaid : Prop := Claim7.holds Tryz.pinned (.plain (OpenSpec.ofChange scalarKnownSpec)) scalarKnownCard

/-- THE SECOND FORM's CARD OF 'crossbarlaw05.ScalarKnown'. -/
def scalarKnownUptoCard : Claim7 := { stood := { row := scalarKnownUptoRow, standIns := [], harness := (true, "cebbeb4b8e1dfe45c6d4d0bfffa3e200fdbeba5851fdf2bfc0b045efb9c36c6a"), looks := false }, kinds := [], alts := [], laidByText := true, laidKinds := [.data], laidTests := true, laidLooks := .later }
def ScalarKnownUptoCardSaid : Prop := Claim7.holds Tryz.pinned (.plain (OpenSpec.upto scalarKnownSpec)) scalarKnownUptoCard
end Rows
end Go.Proofs.YtmcapfbkedfdkaaGreatDoor
