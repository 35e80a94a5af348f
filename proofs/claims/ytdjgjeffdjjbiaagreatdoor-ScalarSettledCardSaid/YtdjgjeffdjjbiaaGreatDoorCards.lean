/-
  DERIVED. GIVEN WITH THE SEED: THE CARDS: each row of YtdjgjeffdjjbiaaGreatDoorRows.lean that lists a variable, with what it lists TIED to the program's text (the seventh form; the later family's looks); each row that meets fmt, with fmt's text TOLD by the authors' own Lean function (tested against real Go, not proved from fmt's source: count such statements apart). THE CARD IS WHAT COUNTS. Prove the row's statement (the work); the ties are given (YtdjgjeffdjjbiaaGreatDoorTie.lean); close each card by the builder's one call (the guide's Derived/Test/ToyasCard.lean, 'card_holds'). Laid BY PROGRAM, IN A SANDBOX (cutbox-door.mjs). By AI agents, Wed Nov 11 2026. No macro, syntax, notation, axiom, sorry.
-/
import Derived.Test.YtdjgjeffdjjbiaaGreatDoorRows
import GoSem.ClaimSeven
namespace Go.Proofs.YtdjgjeffdjjbiaaGreatDoor
namespace Rows

/-- THE TIED CARD OF 'crossbarlaw05.ScalarSays'. -/
def scalarSaysCard : Claim7 := { stood := { row := scalarSaysRow, standIns := [], harness := (true, "37c3cd3d6ed84288333e388236a7e15dd3d11dcc920ff35318e53f203b2cb110"), looks := false }, kinds := [], alts := [], laidByText := true, laidKinds := [.data], laidTests := true, laidLooks := .later }
def ScalarSaysCardSaid : Prop := Claim7.holds Tryz.pinned (.plain (OpenSpec.ofChange scalarSaysSpec)) scalarSaysCard

/-- THE TIED CARD OF 'crossbarlaw05.ScalarSound'. -/
def scalarSoundCard : Claim7 := { stood := { row := scalarSoundRow, standIns := [], harness := (true, "37c3cd3d6ed84288333e388236a7e15dd3d11dcc920ff35318e53f203b2cb110"), looks := false }, kinds := [], alts := [], laidByText := true, laidKinds := [.data], laidTests := true, laidLooks := .later }
def ScalarSoundCardSaid : Prop := Claim7.holds Tryz.pinned (.plain (OpenSpec.ofChange scalarSoundSpec)) scalarSoundCard

/-- THE TIED CARD OF 'crossbarlaw05.ScalarSettled'. -/
def scalarSettledCard : Claim7 := { stood := { row := scalarSettledRow, standIns := [], harness := (true, "37c3cd3d6ed84288333e388236a7e15dd3d11dcc920ff35318e53f203b2cb110"), looks := false }, kinds := [], alts := [], laidByText := true, laidKinds := [.data], laidTests := true, laidLooks := .later }
def ScalarSettledCardSaid : Prop := Claim7.holds Tryz.pinned (.plain (OpenSpec.ofChange scalarSettledSpec)) scalarSettledCard

/-- THE TIED CARD OF 'crossbarlaw05.ScalarKnown'. -/
def scalarKnownCard : Claim7 := { stood := { row := scalarKnownRow, standIns := [], harness := (true, "37c3cd3d6ed84288333e388236a7e15dd3d11dcc920ff35318e53f203b2cb110"), looks := false }, kinds := [], alts := [], laidByText := true, laidKinds := [.data], laidTests := true, laidLooks := .later }
def ScalarKnownCardSaid : Prop := Claim7.holds Tryz.pinned (.plain (OpenSpec.ofChange scalarKnownSpec)) scalarKnownCard

/-- THE SECOND FORM's CARD OF 'crossbarlaw05.ScalarSays'. -/
def scalarSaysUptoCard : Claim7 := { stood := { row := scalarSaysUptoRow, standIns := [], harness := (true, "37c3cd3d6ed84288333e388236a7e15dd3d11dcc920ff35318e53f203b2cb110"), looks := false }, kinds := [], alts := [], laidByText := true, laidKinds := [.data], laidTests := true, laidLooks := .later }
def ScalarSaysUptoCardSaid : Prop := Claim7.holds Tryz.pinned (.plain (OpenSpec.upto scalarSaysSpec)) scalarSaysUptoCard

/-- THE SECOND FORM's CARD OF 'crossbarlaw05.ScalarSound'. -/
def scalarSoundUptoCard : Claim7 := { stood := { row := scalarSoundUptoRow, standIns := [], harness := (true, "37c3cd3d6ed84288333e388236a7e15dd3d11dcc920ff35318e53f203b2cb110"), looks := false }, kinds := [], alts := [], laidByText := true, laidKinds := [.data], laidTests := true, laidLooks := .later }
def ScalarSoundUptoCardSaid : Prop := Claim7.holds Tryz.pinned (.plain (OpenSpec.upto scalarSoundSpec)) scalarSoundUptoCard

/-- THE SECOND FORM's CARD OF 'crossbarlaw05.ScalarSettled'. -/
def scalarSettledUptoCard : Claim7 := { stood := { row := scalarSettledUptoRow, standIns := [], harness := (true, "37c3cd3d6ed84288333e388236a7e15dd3d11dcc920ff35318e53f203b2cb110"), looks := false }, kinds := [], alts := [], laidByText := true, laidKinds := [.data], laidTests := true, laidLooks := .later }
def ScalarSettledUptoCardSaid : Prop := Claim7.holds Tryz.pinned (.plain (OpenSpec.upto scalarSettledSpec)) scalarSettledUptoCard

/-- THE SECOND FORM's CARD OF 'crossbarlaw05.ScalarKnown'. -/
def scalarKnownUptoCard : Claim7 := { stood := { row := scalarKnownUptoRow, standIns := [], harness := (true, "37c3cd3d6ed84288333e388236a7e15dd3d11dcc920ff35318e53f203b2cb110"), looks := false }, kinds := [], alts := [], laidByText := true, laidKinds := [.data], laidTests := true, laidLooks := .later }
def ScalarKnownUptoCardSaid : Prop := Claim7.holds Tryz.pinned (.plain (OpenSpec.upto scalarKnownSpec)) scalarKnownUptoCard
end Rows
end Go.Proofs.YtdjgjeffdjjbiaaGreatDoor
