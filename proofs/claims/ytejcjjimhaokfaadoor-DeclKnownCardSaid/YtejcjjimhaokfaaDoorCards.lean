/-
  DERIVED. GIVEN WITH THE SEED: THE CARDS: each row of YtejcjjimhaokfaaDoorRows.lean that lists a variable, with what it lists TIED to the program's text (the seventh form; the later family's looks); each row that meets fmt, with fmt's text TOLD by the authors' own Lean function (tested against real Go, not proved from fmt's source: count such statements apart). THE CARD IS WHAT COUNTS. Prove the row's statement (the work); the ties are given (YtejcjjimhaokfaaDoorTie.lean); close each card by the builder's one call (the guide's Derived/Test/ToyasCard.lean, 'card_holds'). Laid BY PROGRAM, IN A SANDBOX (cutbox-door.mjs). By AI agents, Wed Nov 11 2026. No macro, syntax, notation, axiom, sorry.
-/
import Derived.Test.YtejcjjimhaokfaaDoorRows
import GoSem.ClaimSeven
namespace Go.Proofs.YtejcjjimhaokfaaDoor
namespace Rows

/-- THE TIED CARD OF 'crossbarlaw07.DeclChecks'. -/
def declChecksCard : Claim7 := { stood := { row := declChecksRow, standIns := [], harness := (true, "f40b87b2827d85705ff7a0a9099ff47385d9c86d7af2e4ef2f21d8e5389e9e66"), looks := false }, kinds := [], alts := [], laidByText := true, laidKinds := [.data], laidTests := true, laidLooks := .later }
def DeclChecksCardSaid : Prop := Claim7.holds Tryd.pinned (.plain (OpenSpec.ofChange declChecksSpec)) declChecksCard

/-- THE TIED CARD OF 'crossbarlaw07.DeclTells'. -/
def declTellsCard : Claim7 := { stood := { row := declTellsRow, standIns := [], harness := (true, "f40b87b2827d85705ff7a0a9099ff47385d9c86d7af2e4ef2f21d8e5389e9e66"), looks := false }, kinds := [], alts := [], laidByText := true, laidKinds := [.data], laidTests := true, laidLooks := .later }
def DeclTellsCardSaid : Prop := Claim7.holds Tryd.pinned (.plain (OpenSpec.ofChange declTellsSpec)) declTellsCard

/-- THE TIED CARD OF 'crossbarlaw07.DeclOrder'. -/
def declOrderCard : Claim7 := { stood := { row := declOrderRow, standIns := [], harness := (true, "f40b87b2827d85705ff7a0a9099ff47385d9c86d7af2e4ef2f21d8e5389e9e66"), looks := false }, kinds := [], alts := [], laidByText := true, laidKinds := [.data], laidTests := true, laidLooks := .later }
def DeclOrderCardSaid : Prop := Claim7.holds Tryd.pinned (.plain (OpenSpec.ofChange declOrderSpec)) declOrderCard

/-- THE TIED CARD OF 'crossbarlaw07.DeclBits'. -/
def declBitsCard : Claim7 := { stood := { row := declBitsRow, standIns := [], harness := (true, "f40b87b2827d85705ff7a0a9099ff47385d9c86d7af2e4ef2f21d8e5389e9e66"), looks := false }, kinds := [], alts := [], laidByText := true, laidKinds := [.data], laidTests := true, laidLooks := .later }
def DeclBitsCardSaid : Prop := Claim7.holds Tryd.pinned (.plain (OpenSpec.ofChange declBitsSpec)) declBitsCard

/-- THE TIED CARD OF 'crossbarlaw07.DeclKnown'. -/
def declKnownCard : Claim7 := { stood := { row := declKnownRow, standIns := [], harness := (true, "f40b87b2827d85705ff7a0a9099ff47385d9c86d7af2e4ef2f21d8e5389e9e66"), looks := false }, kinds := [], alts := [], laidByText := true, laidKinds := [.data], laidTests := true, laidLooks := .later }
def DeclKnownCardSaid : Prop := Claim7.holds Tryd.pinned (.plain (OpenSpec.ofChange declKnownSpec)) declKnownCard

/-- THE SECOND FORM's CARD OF 'crossbarlaw07.DeclChecks'. -/
def declChecksUptoCard : Claim7 := { stood := { row := declChecksUptoRow, standIns := [], harness := (true, "f40b87b2827d85705ff7a0a9099ff47385d9c86d7af2e4ef2f21d8e5389e9e66"), looks := false }, kinds := [], alts := [], laidByText := true, laidKinds := [.data], laidTests := true, laidLooks := .later }
def DeclChecksUptoCardSaid : Prop := Claim7.holds Tryd.pinned (.plain (OpenSpec.upto declChecksSpec)) declChecksUptoCard

/-- THE SECOND FORM's CARD OF 'crossbarlaw07.DeclTells'. -/
def declTellsUptoCard : Claim7 := { stood := { row := declTellsUptoRow, standIns := [], harness := (true, "f40b87b2827d85705ff7a0a9099ff47385d9c86d7af2e4ef2f21d8e5389e9e66"), looks := false }, kinds := [], alts := [], laidByText := true, laidKinds := [.data], laidTests := true, laidLooks := .later }
def DeclTellsUptoCardSaid : Prop := Claim7.holds Tryd.pinned (.plain (OpenSpec.upto declTellsSpec)) declTellsUptoCard

/-- THE SECOND FORM's CARD OF 'crossbarlaw07.DeclOrder'. -/
def declOrderUptoCard : Claim7 := { stood := { row := declOrderUptoRow, standIns := [], harness := (true, "f40b87b2827d85705ff7a0a9099ff47385d9c86d7af2e4ef2f21d8e5389e9e66"), looks := false }, kinds := [], alts := [], laidByText := true, laidKinds := [.data], laidTests := true, laidLooks := .later }
def DeclOrderUptoCardSaid : Prop := Claim7.holds Tryd.pinned (.plain (OpenSpec.upto declOrderSpec)) declOrderUptoCard

/-- THE SECOND FORM's CARD OF 'crossbarlaw07.DeclBits'. -/
def declBitsUptoCard : Claim7 := { stood := { row := declBitsUptoRow, standIns := [], harness := (true, "f40b87b2827d85705ff7a0a9099ff47385d9c86d7af2e4ef2f21d8e5389e9e66"), looks := false }, kinds := [], alts := [], laidByText := true, laidKinds := [.data], laidTests := true, laidLooks := .later }
def DeclBitsUptoCardSaid : Prop := Claim7.holds Tryd.pinned (.plain (OpenSpec.upto declBitsSpec)) declBitsUptoCard

/-- THE SECOND FORM's CARD OF 'crossbarlaw07.DeclKnown'. -/
def declKnownUptoCard : Claim7 := { stood := { row := declKnownUptoRow, standIns := [], harness := (true, "f40b87b2827d85705ff7a0a9099ff47385d9c86d7af2e4ef2f21d8e5389e9e66"), looks := false }, kinds := [], alts := [], laidByText := true, laidKinds := [.data], laidTests := true, laidLooks := .later }
def DeclKnownUptoCardSaid : Prop := Claim7.holds Tryd.pinned (.plain (OpenSpec.upto declKnownSpec)) declKnownUptoCard
end Rows
end Go.Proofs.YtejcjjimhaokfaaDoor
