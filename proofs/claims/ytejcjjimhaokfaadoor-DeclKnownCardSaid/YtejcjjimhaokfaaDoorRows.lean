/-
  NARROWER THAN 'FOR EVERY INPUT', by the rows' own cells (each row's printed sentence says how): DeclChecks: laid · DeclTells: laid · DeclOrder: laid · DeclBits: laid · DeclKnown: laid.
  DERIVED. THE GIVEN ROWS OF THIS SEAT. 5 by the template 'for every input the law returns true; each argument reads behind the call as it read before'; 0 by the template 'total and deterministic' (their statements: YtejcjjimhaokfaaDoorTotals.lean).
  GIVEN WITH THE SEED: the statements are not yours to turn. If you find one false, say at which input.
  Laid BY PROGRAM, IN A SANDBOX (cutbox-rows.mjs): the forced cells as the released guide's own fill.sh prints them over the translation f507b64bd756b1f2… (all of the seat's roots in one cut). By AI agents, Wed Nov 11 2026. No macro, syntax, notation, axiom, sorry.
-/
import Derived.Test.YtejcjjimhaokfaaDoorChecked
import GoSem.Claim
import GoSem.ClaimJoined
import GoSem.ClaimMapViews
import Derived.JoinedTies
import Derived.KernelRfl
namespace Go.Proofs.YtejcjjimhaokfaaDoor
/- THE CELL 'sum', in the pinned program and in every row, IS THE sha256 OF THE DUMP (.gsa) THAT YtejcjjimhaokfaaDoorProg.lean LOADS. Nothing in Lean hashes anything: it is a label: what it is worth is what the hold of that sum in a sandbox is worth. -/
noncomputable def Tryd.pinned : Pinned := { name := "ytejcjjimhaokfaadoor", sum := "f507b64bd756b1f248c999d3af5ab5adaa8ac69af50f8d1f9b4d9e79af3a237e", checked := Tryd.checked }
namespace Rows
def none {H : Type} : Left H := { results := [], args := [] }

/- WHAT THE LISTED PACKAGE-LEVEL VARIABLES READ AS WHEN THE CALL BEGINS. Each datum BY PROGRAM (the guide's laid-datum.mjs) off the statement by which the dump's own 'gosem.cut.vars' lays the variable. In a bare row this is a premise. The card (YtejcjjimhaokfaaDoorCards.lean) ties it to the program's text. -/
def laid_crossbar_decl_kinds {H : Type} : DataW H := .agg [.agg [.lit (.int .u64 0), .lit (.bool false), .lit (.bool false), .lit (.bool false), .lit (.bool false)], .agg [.lit (.int .u64 22), .lit (.bool false), .lit (.bool false), .lit (.bool false), .lit (.bool false)], .agg [.lit (.int .u64 22), .lit (.bool false), .lit (.bool false), .lit (.bool false), .lit (.bool false)], .agg [.lit (.int .u64 22), .lit (.bool true), .lit (.bool false), .lit (.bool false), .lit (.bool false)], .agg [.lit (.int .u64 62), .lit (.bool false), .lit (.bool true), .lit (.bool true), .lit (.bool false)], .agg [.lit (.int .u64 62), .lit (.bool false), .lit (.bool false), .lit (.bool false), .lit (.bool false)], .agg [.lit (.int .u64 448), .lit (.bool true), .lit (.bool false), .lit (.bool false), .lit (.bool false)], .agg [.lit (.int .u64 448), .lit (.bool true), .lit (.bool false), .lit (.bool false), .lit (.bool false)], .agg [.lit (.int .u64 320), .lit (.bool false), .lit (.bool true), .lit (.bool false), .lit (.bool false)], .agg [.lit (.int .u64 30), .lit (.bool false), .lit (.bool false), .lit (.bool false), .lit (.bool true)], .agg [.lit (.int .u64 30), .lit (.bool false), .lit (.bool true), .lit (.bool true), .lit (.bool true)]]

/-- 'crossbarlaw07.DeclChecks': WHATEVER THE INPUT: true; the input reads as it did. -/
def declChecksSpec : ChangeSpec := { name := "declChecks", fn := fun _ => fun
  | [d] => { results := [.lit (.bool true)], args := [d] }
  | _ => none }
def declChecksRow : OpenClaim := { program := "ytejcjjimhaokfaadoor", sum := "f507b64bd756b1f248c999d3af5ab5adaa8ac69af50f8d1f9b4d9e79af3a237e", func := "crossbar/crossbarlaw07.DeclChecks", spec := "declChecks", named := ["crossbar/decl.kinds"], apart := false, laid := [("crossbar/decl.kinds", laid_crossbar_decl_kinds)] }
def DeclChecksSaid : Prop := declChecksRow.holds Tryd.pinned (OpenSpec.ofChange declChecksSpec)

/-- ITS FALSE NEIGHBOUR: 'it returns false'. Refute it at one input. -/
def declChecksWrong : ChangeSpec := { name := "declChecks", fn := fun _ => fun
  | [d] => { results := [.lit (.bool false)], args := [d] }
  | _ => none }
def DeclChecksWrongFalsely : Prop := declChecksRow.holds Tryd.pinned (OpenSpec.ofChange declChecksWrong)

/-- 'crossbarlaw07.DeclTells': WHATEVER THE INPUT: true; the input reads as it did. -/
def declTellsSpec : ChangeSpec := { name := "declTells", fn := fun _ => fun
  | [d1, d2, d3, d4, d5] => { results := [.lit (.bool true)], args := [d1, d2, d3, d4, d5] }
  | _ => none }
def declTellsRow : OpenClaim := { program := "ytejcjjimhaokfaadoor", sum := "f507b64bd756b1f248c999d3af5ab5adaa8ac69af50f8d1f9b4d9e79af3a237e", func := "crossbar/crossbarlaw07.DeclTells", spec := "declTells", named := ["crossbar/decl.kinds"], apart := false, laid := [("crossbar/decl.kinds", laid_crossbar_decl_kinds)] }
def DeclTellsSaid : Prop := declTellsRow.holds Tryd.pinned (OpenSpec.ofChange declTellsSpec)

/-- ITS FALSE NEIGHBOUR: 'it returns false'. Refute it at one input. -/
def declTellsWrong : ChangeSpec := { name := "declTells", fn := fun _ => fun
  | [d1, d2, d3, d4, d5] => { results := [.lit (.bool false)], args := [d1, d2, d3, d4, d5] }
  | _ => none }
def DeclTellsWrongFalsely : Prop := declTellsRow.holds Tryd.pinned (OpenSpec.ofChange declTellsWrong)

/-- 'crossbarlaw07.DeclOrder': WHATEVER THE INPUT: true; the input reads as it did. -/
def declOrderSpec : ChangeSpec := { name := "declOrder", fn := fun _ => fun
  | [d1, d2, d3, d4] => { results := [.lit (.bool true)], args := [d1, d2, d3, d4] }
  | _ => none }
def declOrderRow : OpenClaim := { program := "ytejcjjimhaokfaadoor", sum := "f507b64bd756b1f248c999d3af5ab5adaa8ac69af50f8d1f9b4d9e79af3a237e", func := "crossbar/crossbarlaw07.DeclOrder", spec := "declOrder", named := ["crossbar/decl.kinds"], apart := false, laid := [("crossbar/decl.kinds", laid_crossbar_decl_kinds)] }
def DeclOrderSaid : Prop := declOrderRow.holds Tryd.pinned (OpenSpec.ofChange declOrderSpec)

/-- ITS FALSE NEIGHBOUR: 'it returns false'. Refute it at one input. -/
def declOrderWrong : ChangeSpec := { name := "declOrder", fn := fun _ => fun
  | [d1, d2, d3, d4] => { results := [.lit (.bool false)], args := [d1, d2, d3, d4] }
  | _ => none }
def DeclOrderWrongFalsely : Prop := declOrderRow.holds Tryd.pinned (OpenSpec.ofChange declOrderWrong)

/-- 'crossbarlaw07.DeclBits': WHATEVER THE INPUT: true; the input reads as it did. -/
def declBitsSpec : ChangeSpec := { name := "declBits", fn := fun _ => fun
  | [d1, d2] => { results := [.lit (.bool true)], args := [d1, d2] }
  | _ => none }
def declBitsRow : OpenClaim := { program := "ytejcjjimhaokfaadoor", sum := "f507b64bd756b1f248c999d3af5ab5adaa8ac69af50f8d1f9b4d9e79af3a237e", func := "crossbar/crossbarlaw07.DeclBits", spec := "declBits", named := ["crossbar/decl.kinds"], apart := false, laid := [("crossbar/decl.kinds", laid_crossbar_decl_kinds)] }
def DeclBitsSaid : Prop := declBitsRow.holds Tryd.pinned (OpenSpec.ofChange declBitsSpec)

/-- ITS FALSE NEIGHBOUR: 'it returns false'. Refute it at one input. -/
def declBitsWrong : ChangeSpec := { name := "declBits", fn := fun _ => fun
  | [d1, d2] => { results := [.lit (.bool false)], args := [d1, d2] }
  | _ => none }
def DeclBitsWrongFalsely : Prop := declBitsRow.holds Tryd.pinned (OpenSpec.ofChange declBitsWrong)

/-- 'crossbarlaw07.DeclKnown': WHATEVER THE INPUT: true; the input reads as it did. -/
def declKnownSpec : ChangeSpec := { name := "declKnown", fn := fun _ => fun
  | [] => { results := [.lit (.bool true)], args := [] }
  | _ => none }
def declKnownRow : OpenClaim := { program := "ytejcjjimhaokfaadoor", sum := "f507b64bd756b1f248c999d3af5ab5adaa8ac69af50f8d1f9b4d9e79af3a237e", func := "crossbar/crossbarlaw07.DeclKnown", spec := "declKnown", named := ["crossbar/decl.kinds"], apart := false, laid := [("crossbar/decl.kinds", laid_crossbar_decl_kinds)] }
def DeclKnownSaid : Prop := declKnownRow.holds Tryd.pinned (OpenSpec.ofChange declKnownSpec)

/-- ITS FALSE NEIGHBOUR: 'it returns false'. Refute it at one input. -/
def declKnownWrong : ChangeSpec := { name := "declKnown", fn := fun _ => fun
  | [] => { results := [.lit (.bool false)], args := [] }
  | _ => none }
def DeclKnownWrongFalsely : Prop := declKnownRow.holds Tryd.pinned (OpenSpec.ofChange declKnownWrong)

/- THE SECOND FORM. 'bulk': how many values and letters a reading holds, each counted each time it is reached (what is shared counts as often as it is met; a slice's spare places count too). A statement '..UptoSaid' is the law's where the arguments, and the package variables that the reading takes, are together of bulk at most 1048576: NARROWER than '..Said'. Prove '..Said' where nothing that the law and all that it calls make is longer than what came in: it says more and counts as full. Else prove '..UptoSaid'. A law counts once. -/
mutual
def uptoBulk {H : Type} : DataW H → Nat
  | .lit (.string bytes) => bytes.length + 1
  | .lit _ => 1
  | .nil => 1
  | .ptr d => uptoBulk d + 1
  | .slice elems spare => uptoBulkAll elems + uptoBulkAll spare + 1
  | .agg parts => uptoBulkAll parts + 1
  | .iface _ d => uptoBulk d + 1
  | .map entries => uptoBulkEntries entries + 1
  | .held _ => 1
def uptoBulkAll {H : Type} : List (DataW H) → Nat
  | [] => 0
  | d :: r => uptoBulk d + uptoBulkAll r
def uptoBulkEntries {H : Type} : List (Lit × DataW H) → Nat
  | [] => 0
  | x :: r => uptoBulkEntry x + uptoBulkEntries r
def uptoBulkEntry {H : Type} : Lit × DataW H → Nat
  | (.string bytes, d) => bytes.length + uptoBulk d + 1
  | (_, d) => uptoBulk d + 1
 end
def uptoSmall : (H : Type) → List (DataW H) → Bool := fun _ ds => decide (uptoBulkAll ds ≤ 1048576)
def OpenSpec.upto (s : _root_.Go.ChangeSpec) : _root_.Go.OpenSpec := { _root_.Go.OpenSpec.ofChange s with cond := some uptoSmall }

/-- 'crossbarlaw07.DeclChecks', WHERE WHAT IT READS IS OF BULK AT MOST 1048576: true; the input reads as it did. -/
def declChecksUptoRow : OpenClaim := { program := "ytejcjjimhaokfaadoor", sum := "f507b64bd756b1f248c999d3af5ab5adaa8ac69af50f8d1f9b4d9e79af3a237e", func := "crossbar/crossbarlaw07.DeclChecks", spec := "declChecks", named := ["crossbar/decl.kinds"], apart := false, laid := [("crossbar/decl.kinds", laid_crossbar_decl_kinds)], narrowed := true }
def DeclChecksUptoSaid : Prop := declChecksUptoRow.holds Tryd.pinned (OpenSpec.upto declChecksSpec)

/-- 'crossbarlaw07.DeclTells', WHERE WHAT IT READS IS OF BULK AT MOST 1048576: true; the input reads as it did. -/
def declTellsUptoRow : OpenClaim := { program := "ytejcjjimhaokfaadoor", sum := "f507b64bd756b1f248c999d3af5ab5adaa8ac69af50f8d1f9b4d9e79af3a237e", func := "crossbar/crossbarlaw07.DeclTells", spec := "declTells", named := ["crossbar/decl.kinds"], apart := false, laid := [("crossbar/decl.kinds", laid_crossbar_decl_kinds)], narrowed := true }
def DeclTellsUptoSaid : Prop := declTellsUptoRow.holds Tryd.pinned (OpenSpec.upto declTellsSpec)

/-- 'crossbarlaw07.DeclOrder', WHERE WHAT IT READS IS OF BULK AT MOST 1048576: true; the input reads as it did. -/
def declOrderUptoRow : OpenClaim := { program := "ytejcjjimhaokfaadoor", sum := "f507b64bd756b1f248c999d3af5ab5adaa8ac69af50f8d1f9b4d9e79af3a237e", func := "crossbar/crossbarlaw07.DeclOrder", spec := "declOrder", named := ["crossbar/decl.kinds"], apart := false, laid := [("crossbar/decl.kinds", laid_crossbar_decl_kinds)], narrowed := true }
def DeclOrderUptoSaid : Prop := declOrderUptoRow.holds Tryd.pinned (OpenSpec.upto declOrderSpec)

/-- 'crossbarlaw07.DeclBits', WHERE WHAT IT READS IS OF BULK AT MOST 1048576: true; the input reads as it did. -/
def declBitsUptoRow : OpenClaim := { program := "ytejcjjimhaokfaadoor", sum := "f507b64bd756b1f248c999d3af5ab5adaa8ac69af50f8d1f9b4d9e79af3a237e", func := "crossbar/crossbarlaw07.DeclBits", spec := "declBits", named := ["crossbar/decl.kinds"], apart := false, laid := [("crossbar/decl.kinds", laid_crossbar_decl_kinds)], narrowed := true }
def DeclBitsUptoSaid : Prop := declBitsUptoRow.holds Tryd.pinned (OpenSpec.upto declBitsSpec)

/-- 'crossbarlaw07.DeclKnown', WHERE WHAT IT READS IS OF BULK AT MOST 1048576: true; the input reads as it did. -/
def declKnownUptoRow : OpenClaim := { program := "ytejcjjimhaokfaadoor", sum := "f507b64bd756b1f248c999d3af5ab5adaa8ac69af50f8d1f9b4d9e79af3a237e", func := "crossbar/crossbarlaw07.DeclKnown", spec := "declKnown", named := ["crossbar/decl.kinds"], apart := false, laid := [("crossbar/decl.kinds", laid_crossbar_decl_kinds)], narrowed := true }
def DeclKnownUptoSaid : Prop := declKnownUptoRow.holds Tryd.pinned (OpenSpec.upto declKnownSpec)

end Rows
end Go.Proofs.YtejcjjimhaokfaaDoor
