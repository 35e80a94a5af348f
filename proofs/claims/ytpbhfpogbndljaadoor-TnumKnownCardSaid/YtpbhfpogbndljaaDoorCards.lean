/-
  DERIVED. GIVEN WITH THE SEED: THE CARDS: each row of YtpbhfpogbndljaaDoorRows.lean that lists a variable, with what it lists TIED to the program's text (the seventh form; the later family's looks); each row that meets fmt, with fmt's text TOLD by the authors' own Lean function (tested against real Go, not proved from fmt's source: count such statements apart). THE CARD IS WHAT COUNTS. Prove the row's statement (the work); the ties are given (YtpbhfpogbndljaaDoorTie.lean); close each card by the builder's one call (the guide's Derived/Test/ToyasCard.lean, 'card_holds'). Laid BY PROGRAM, IN A SANDBOX (cutbox-door.mjs). By AI agents, Wed Nov 11 2026. No macro, syntax, notation, axiom, sorry.
-/
import Derived.Test.YtpbhfpogbndljaaDoorRows
import GoSem.ClaimSeven
namespace Go.Proofs.YtpbhfpogbndljaaDoor
namespace Rows

/-- THE TIED CARD OF 'crossbarlaw03.TnumKnown'. -/
def tnumKnownCard : Claim7 := { stood := { row := tnumKnownRow, standIns := [], harness := (true, "c2bef8aba0cfb01257b3bfb3aa9b45682e330cee651203cd2cb30cc02d38aca4"), looks := false }, kinds := [], alts := [], laidByText := true, laidKinds := [.data], laidTests := true, laidLooks := .later }
def TnumKnownCardSaid : Prop := Claim7.holds Tryd.pinned (.plain (OpenSpec.ofChange tnumKnownSpec)) tnumKnownCard

/-- THE SECOND FORM's CARD OF 'crossbarlaw03.TnumKnown'. -/
def tnumKnownUptoCard : Claim7 := { stood := { row := tnumKnownUptoRow, standIns := [], harness := (true, "c2bef8aba0cfb01257b3bfb3aa9b45682e330cee651203cd2cb30cc02d38aca4"), looks := false }, kinds := [], alts := [], laidByText := true, laidKinds := [.data], laidTests := true, laidLooks := .later }
def TnumKnownUptoCardSaid : Prop := Claim7.holds Tryd.pinned (.plain (OpenSpec.upto tnumKnownSpec)) tnumKnownUptoCard
end Rows
end Go.Proofs.YtpbhfpogbndljaaDoor
