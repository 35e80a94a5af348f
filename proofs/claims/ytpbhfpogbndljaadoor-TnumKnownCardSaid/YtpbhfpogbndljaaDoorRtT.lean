/-
  The program's calls of tnum, said of P's, and that the document's answers are theirs.
-/
import Derived.Test.YtpbhfpogbndljaaDoorRtLb
import Derived.Test.YtpbhfpogbndljaaDoorTnZ
namespace Go.Proofs.YtpbhfpogbndljaaDoor.Rt
open Go.RowKit Go.Proofs.YtpbhfpogbndljaaDoor.Num Go.Proofs.YtpbhfpogbndljaaDoor.Up Go.Proofs.YtpbhfpogbndljaaDoor.Tn
def ofP (a : P) : T := ⟨a.lo, a.hi⟩
def tnIn (a : P) (v : BitVec 64) : Bool := inB (ofP a) v
def tnWithin (a b : P) : Bool := withinB (ofP a) (ofP b)
def tnMeet (a b : P) : P × Bool := (toP (meetR (ofP a) (ofP b)), !noneB (ofP a) (ofP b))
def tnCut (a : P) : P := toP (cutR (ofP a))
def tnAnd (a b : P) : P := toP (andR (ofP a) (ofP b))
def tnOr (a b : P) : P := toP (orR (ofP a) (ofP b))
def tnXor (a b : P) : P := toP (xorR (ofP a) (ofP b))
def tnAdd (a b : P) : P := toP (addR (ofP a) (ofP b))
def tnSub (a b : P) : P := toP (subR (ofP a) (ofP b))
def tnLsh (a : P) (n : BitVec 64) : P := toP (shiftR 96 (ofP a) n)
def tnRsh (a : P) (n : BitVec 64) : P := toP (shiftR 112 (ofP a) n)
def tnArsh (a : P) (n : BitVec 64) : P := toP (shiftR 192 (ofP a) n)
theorem tnOf_any (v : BitVec 64) (w : World) : Calls Tryd.prog 7 #[.int .u64 (tn v)] w fun e w' => e = .returned (.agg #[.int .u64 (tn v), .int .u64 (tn 0#64)]) ∧ Below w.heap.size w w' := of_any v w
theorem tnIn_any (a : P) (v : BitVec 64) (w : World) : Calls Tryd.prog 13 #[.agg #[.int .u64 (tn a.lo), .int .u64 (tn a.hi)], .int .u64 (tn v)] w fun e w' => e = .returned (.bool (tnIn a v)) ∧ Below w.heap.size w w' := in_any (ofP a) v w
theorem tnWithin_any (a b : P) (w : World) : Calls Tryd.prog 31 #[.agg #[.int .u64 (tn a.lo), .int .u64 (tn a.hi)], .agg #[.int .u64 (tn b.lo), .int .u64 (tn b.hi)]] w fun e w' => e = .returned (.bool (tnWithin a b)) ∧ Below w.heap.size w w' := within_any (ofP a) (ofP b) w
theorem tnMeet_any (a b : P) (w : World) : Calls Tryd.prog 28 #[.agg #[.int .u64 (tn a.lo), .int .u64 (tn a.hi)], .agg #[.int .u64 (tn b.lo), .int .u64 (tn b.hi)]] w fun e w' => e = .returned (.tuple #[.agg #[.int .u64 (tn (tnMeet a b).1.lo), .int .u64 (tn (tnMeet a b).1.hi)], .bool (tnMeet a b).2]) ∧ Below w.heap.size w w' := meet_any (ofP a) (ofP b) w
theorem tnCut_any (a : P) (w : World) : Calls Tryd.prog 26 #[.agg #[.int .u64 (tn a.lo), .int .u64 (tn a.hi)]] w fun e w' => e = .returned (.agg #[.int .u64 (tn (tnCut a).lo), .int .u64 (tn (tnCut a).hi)]) ∧ Below w.heap.size w w' := cut_any (ofP a) w
theorem tnAnd_any (a b : P) (w : World) : Calls Tryd.prog 15 #[.agg #[.int .u64 (tn a.lo), .int .u64 (tn a.hi)], .agg #[.int .u64 (tn b.lo), .int .u64 (tn b.hi)]] w fun e w' => e = .returned (.agg #[.int .u64 (tn (tnAnd a b).lo), .int .u64 (tn (tnAnd a b).hi)]) ∧ Below w.heap.size w w' := and_any (ofP a) (ofP b) w
theorem tnOr_any (a b : P) (w : World) : Calls Tryd.prog 16 #[.agg #[.int .u64 (tn a.lo), .int .u64 (tn a.hi)], .agg #[.int .u64 (tn b.lo), .int .u64 (tn b.hi)]] w fun e w' => e = .returned (.agg #[.int .u64 (tn (tnOr a b).lo), .int .u64 (tn (tnOr a b).hi)]) ∧ Below w.heap.size w w' := or_any (ofP a) (ofP b) w
theorem tnXor_any (a b : P) (w : World) : Calls Tryd.prog 17 #[.agg #[.int .u64 (tn a.lo), .int .u64 (tn a.hi)], .agg #[.int .u64 (tn b.lo), .int .u64 (tn b.hi)]] w fun e w' => e = .returned (.agg #[.int .u64 (tn (tnXor a b).lo), .int .u64 (tn (tnXor a b).hi)]) ∧ Below w.heap.size w w' := xor_any (ofP a) (ofP b) w
theorem tnAdd_any (a b : P) (w : World) : Calls Tryd.prog 14 #[.agg #[.int .u64 (tn a.lo), .int .u64 (tn a.hi)], .agg #[.int .u64 (tn b.lo), .int .u64 (tn b.hi)]] w fun e w' => e = .returned (.agg #[.int .u64 (tn (tnAdd a b).lo), .int .u64 (tn (tnAdd a b).hi)]) ∧ Below w.heap.size w w' := add_any (ofP a) (ofP b) w
theorem tnSub_any (a b : P) (w : World) : Calls Tryd.prog 11 #[.agg #[.int .u64 (tn a.lo), .int .u64 (tn a.hi)], .agg #[.int .u64 (tn b.lo), .int .u64 (tn b.hi)]] w fun e w' => e = .returned (.agg #[.int .u64 (tn (tnSub a b).lo), .int .u64 (tn (tnSub a b).hi)]) ∧ Below w.heap.size w w' := sub_any (ofP a) (ofP b) w
theorem tnLsh_any (a : P) (n : BitVec 64) (w : World) : Calls Tryd.prog 9 #[.agg #[.int .u64 (tn a.lo), .int .u64 (tn a.hi)], .int .i64 (ti n)] w fun e w' => e = .returned (.agg #[.int .u64 (tn (tnLsh a n).lo), .int .u64 (tn (tnLsh a n).hi)]) ∧ Below w.heap.size w w' := lsh_any (ofP a) n w
theorem tnRsh_any (a : P) (n : BitVec 64) (w : World) : Calls Tryd.prog 25 #[.agg #[.int .u64 (tn a.lo), .int .u64 (tn a.hi)], .int .i64 (ti n)] w fun e w' => e = .returned (.agg #[.int .u64 (tn (tnRsh a n).lo), .int .u64 (tn (tnRsh a n).hi)]) ∧ Below w.heap.size w w' := rsh_any (ofP a) n w
theorem tnArsh_any (a : P) (n : BitVec 64) (w : World) : Calls Tryd.prog 10 #[.agg #[.int .u64 (tn a.lo), .int .u64 (tn a.hi)], .int .i64 (ti n)] w fun e w' => e = .returned (.agg #[.int .u64 (tn (tnArsh a n).lo), .int .u64 (tn (tnArsh a n).hi)]) ∧ Below w.heap.size w w' := arsh_any (ofP a) n w
def tnJoin (a b : P) : P := toP (joinR (ofP a) (ofP b))
theorem tnJoin_any (a b : P) (w : World) : Calls Tryd.prog 33 #[.agg #[.int .u64 (tn a.lo), .int .u64 (tn a.hi)], .agg #[.int .u64 (tn b.lo), .int .u64 (tn b.hi)]] w fun e w' => e = .returned (.agg #[.int .u64 (tn (tnJoin a b).lo), .int .u64 (tn (tnJoin a b).hi)]) ∧ Below w.heap.size w w' := join_any (ofP a) (ofP b) w
def tnMul (a b : P) : P := toP (mulR (ofP a) (ofP b) (nou a) (nou b))
theorem tnMul_any (a b : P) (w : World) (hT : Tab w) : Calls Tryd.prog 6 #[.agg #[.int .u64 (tn a.lo), .int .u64 (tn a.hi)], .agg #[.int .u64 (tn b.lo), .int .u64 (tn b.hi)]] w fun e w' => e = .returned (.agg #[.int .u64 (tn (tnMul a b).lo), .int .u64 (tn (tnMul a b).hi)]) ∧ Below w.heap.size w w' := mul_any (ofP a) (ofP b) _ _ w hT (nou_tz (ofP a)) (nou_tz (ofP b))
theorem And_eq (a b : P) : refAnd a b = tnAnd a b := and_eq (ofP a) (ofP b)
theorem Or_eq (a b : P) : refOr a b = tnOr a b := or_eq (ofP a) (ofP b)
theorem Xor_eq (a b : P) : refXor a b = tnXor a b := xor_eq (ofP a) (ofP b)
theorem Join_eq (a b : P) : refJoin a b = tnJoin a b := join_eq (ofP a) (ofP b)
theorem Add_eq (a b : P) : tnumB (sumB maj3 (ofB a) (ofB b)) = tnAdd a b := add_eq (ofP a) (ofP b)
theorem Sub_eq (a b : P) : tnumB (sumB bor3 (ofB a) (ofB b)) = tnSub a b := sub_eq (ofP a) (ofP b)
theorem Mul_eq (a b : P) : refMul a b = tnMul a b := mul_eq (ofP a) (ofP b)
theorem Lsh_eq (a : P) (n : BitVec 64) : tnumB (movB true false (ofB a) (n % 64#64).toNat) = tnLsh a n := lsh_eq (ofP a) n
theorem Rsh_eq (a : P) (n : BitVec 64) : tnumB (movB false false (ofB a) (n % 64#64).toNat) = tnRsh a n := rsh_eq (ofP a) n
theorem Arsh_eq (a : P) (n : BitVec 64) : tnumB (movB false true (ofB a) (n % 64#64).toNat) = tnArsh a n := arsh_eq (ofP a) n
theorem Cut_eq (a : P) : refAnd a (P.mk 4294967295#64 0#64) = tnCut a := cut_eq (ofP a)
theorem Meet_eq (a b : P) : refMeet a b = tnMeet a b := meet_eq (ofP a) (ofP b)
theorem In_eq (a : P) (v : BitVec 64) : refIn a v = tnIn a v := in_eq (ofP a) v
theorem Within_eq (a b : P) : refWithin a b = tnWithin a b := within_eq (ofP a) (ofP b)
end Go.Proofs.YtpbhfpogbndljaaDoor.Rt
