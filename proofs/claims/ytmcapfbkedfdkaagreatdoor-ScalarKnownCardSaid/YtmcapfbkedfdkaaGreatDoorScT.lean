/-
  The calls of tnum and word, said of P's: what the scalar layer calls.
-/
import Derived.Test.YtmcapfbkedfdkaaGreatDoorCap
import Derived.Test.YtmcapfbkedfdkaaGreatDoorWordD
import Derived.Test.YtmcapfbkedfdkaaGreatDoorTnC
import Derived.Test.YtmcapfbkedfdkaaGreatDoorTnD
import Derived.Test.YtmcapfbkedfdkaaGreatDoorTnZ
namespace Go.Proofs.YtmcapfbkedfdkaaGreatDoor.Sp
open Go.RowKit Go.Proofs.YtmcapfbkedfdkaaGreatDoor.Num Go.Proofs.YtmcapfbkedfdkaaGreatDoor.Up Go.Proofs.YtmcapfbkedfdkaaGreatDoor.Tn
def ofP (a : P) : T := ⟨a.lo, a.hi⟩
def toP (a : T) : P := ⟨a.v, a.m⟩
def tnIn (a : P) (v : BitVec 64) : Bool := inB (ofP a) v
def tnWithin (a b : P) : Bool := withinB (ofP a) (ofP b)
def tnMeet (a b : P) : P × Bool := (toP (meetR (ofP a) (ofP b)), !noneB (ofP a) (ofP b))
def tnCut (a : P) : P := toP (cutR (ofP a))
def tnAnd (a b : P) : P := toP (andR (ofP a) (ofP b))
def tnOr (a b : P) : P := toP (orR (ofP a) (ofP b))
def tnXor (a b : P) : P := toP (xorR (ofP a) (ofP b))
def tnAdd (a b : P) : P := toP (addR (ofP a) (ofP b))
def tnSub (a b : P) : P := toP (subR (ofP a) (ofP b))
def tnLsh (a : P) (n : BitVec 64) : P := toP (shiftR 96 (ofP a) n)
def tnRsh (a : P) (n : BitVec 64) : P := toP (shiftR 112 (ofP a) n)
def tnArsh (a : P) (n : BitVec 64) : P := toP (shiftR 192 (ofP a) n)
def tzN (x : BitVec 64) : Nat := ((List.range 64).find? fun i => x.getLsbD i).getD 64
theorem tzN_spec (x : BitVec 64) : TZ x (tzN x) := by
 unfold tzN TZ
 cases h : (List.range 64).find? fun i => x.getLsbD i with
 | none =>
  right
  refine ⟨rfl, ?_⟩
  rw [List.find?_range_eq_none] at h
  apply BitVec.eq_of_getLsbD_eq
  intro i hi
  have := h i hi
  simpa using this
 | some k =>
  left
  rw [List.find?_range_eq_some] at h
  obtain ⟨h1, h2, h3⟩ := h
  refine ⟨List.mem_range.1 h2, h1, fun j hj => ?_⟩
  have := h3 j hj
  simpa using this
def tnMul (a b : P) : P := toP (mulR (ofP a) (ofP b) (tzN (ofP a).hi) (tzN (ofP b).hi))
theorem tnOf_any (v : BitVec 64) (w : World) : Calls Tryz.prog 19 #[.int .u64 (tn v)] w fun e w' => e = .returned (.agg #[.int .u64 (tn v), .int .u64 (tn 0#64)]) ∧ Below w.heap.size w w' := of_any v w
theorem tnIn_any (a : P) (v : BitVec 64) (w : World) : Calls Tryz.prog 32 #[.agg #[.int .u64 (tn a.lo), .int .u64 (tn a.hi)], .int .u64 (tn v)] w fun e w' => e = .returned (.bool (tnIn a v)) ∧ Below w.heap.size w w' := in_any (ofP a) v w
theorem tnWithin_any (a b : P) (w : World) : Calls Tryz.prog 84 #[.agg #[.int .u64 (tn a.lo), .int .u64 (tn a.hi)], .agg #[.int .u64 (tn b.lo), .int .u64 (tn b.hi)]] w fun e w' => e = .returned (.bool (tnWithin a b)) ∧ Below w.heap.size w w' := within_any (ofP a) (ofP b) w
theorem tnMeet_any (a b : P) (w : World) : Calls Tryz.prog 54 #[.agg #[.int .u64 (tn a.lo), .int .u64 (tn a.hi)], .agg #[.int .u64 (tn b.lo), .int .u64 (tn b.hi)]] w fun e w' => e = .returned (.tuple #[.agg #[.int .u64 (tn (tnMeet a b).1.lo), .int .u64 (tn (tnMeet a b).1.hi)], .bool (tnMeet a b).2]) ∧ Below w.heap.size w w' := meet_any (ofP a) (ofP b) w
theorem tnCut_any (a : P) (w : World) : Calls Tryz.prog 76 #[.agg #[.int .u64 (tn a.lo), .int .u64 (tn a.hi)]] w fun e w' => e = .returned (.agg #[.int .u64 (tn (tnCut a).lo), .int .u64 (tn (tnCut a).hi)]) ∧ Below w.heap.size w w' := cut_any (ofP a) w
theorem tnAnd_any (a b : P) (w : World) : Calls Tryz.prog 67 #[.agg #[.int .u64 (tn a.lo), .int .u64 (tn a.hi)], .agg #[.int .u64 (tn b.lo), .int .u64 (tn b.hi)]] w fun e w' => e = .returned (.agg #[.int .u64 (tn (tnAnd a b).lo), .int .u64 (tn (tnAnd a b).hi)]) ∧ Below w.heap.size w w' := and_any (ofP a) (ofP b) w
theorem tnOr_any (a b : P) (w : World) : Calls Tryz.prog 69 #[.agg #[.int .u64 (tn a.lo), .int .u64 (tn a.hi)], .agg #[.int .u64 (tn b.lo), .int .u64 (tn b.hi)]] w fun e w' => e = .returned (.agg #[.int .u64 (tn (tnOr a b).lo), .int .u64 (tn (tnOr a b).hi)]) ∧ Below w.heap.size w w' := or_any (ofP a) (ofP b) w
theorem tnXor_any (a b : P) (w : World) : Calls Tryz.prog 71 #[.agg #[.int .u64 (tn a.lo), .int .u64 (tn a.hi)], .agg #[.int .u64 (tn b.lo), .int .u64 (tn b.hi)]] w fun e w' => e = .returned (.agg #[.int .u64 (tn (tnXor a b).lo), .int .u64 (tn (tnXor a b).hi)]) ∧ Below w.heap.size w w' := xor_any (ofP a) (ofP b) w
theorem tnAdd_any (a b : P) (w : World) : Calls Tryz.prog 60 #[.agg #[.int .u64 (tn a.lo), .int .u64 (tn a.hi)], .agg #[.int .u64 (tn b.lo), .int .u64 (tn b.hi)]] w fun e w' => e = .returned (.agg #[.int .u64 (tn (tnAdd a b).lo), .int .u64 (tn (tnAdd a b).hi)]) ∧ Below w.heap.size w w' := add_any (ofP a) (ofP b) w
theorem tnSub_any (a b : P) (w : World) : Calls Tryz.prog 112 #[.agg #[.int .u64 (tn a.lo), .int .u64 (tn a.hi)], .agg #[.int .u64 (tn b.lo), .int .u64 (tn b.hi)]] w fun e w' => e = .returned (.agg #[.int .u64 (tn (tnSub a b).lo), .int .u64 (tn (tnSub a b).hi)]) ∧ Below w.heap.size w w' := sub_any (ofP a) (ofP b) w
theorem tnMul_any (a b : P) (w : World) (hT : Tab w) : Calls Tryz.prog 65 #[.agg #[.int .u64 (tn a.lo), .int .u64 (tn a.hi)], .agg #[.int .u64 (tn b.lo), .int .u64 (tn b.hi)]] w fun e w' => e = .returned (.agg #[.int .u64 (tn (tnMul a b).lo), .int .u64 (tn (tnMul a b).hi)]) ∧ Below w.heap.size w w' := mul_any (ofP a) (ofP b) _ _ w hT (tzN_spec _) (tzN_spec _)
theorem tnLsh_any (a : P) (n : BitVec 64) (w : World) : Calls Tryz.prog 117 #[.agg #[.int .u64 (tn a.lo), .int .u64 (tn a.hi)], .int .i64 (ti n)] w fun e w' => e = .returned (.agg #[.int .u64 (tn (tnLsh a n).lo), .int .u64 (tn (tnLsh a n).hi)]) ∧ Below w.heap.size w w' := lsh_any (ofP a) n w
theorem tnRsh_any (a : P) (n : BitVec 64) (w : World) : Calls Tryz.prog 119 #[.agg #[.int .u64 (tn a.lo), .int .u64 (tn a.hi)], .int .i64 (ti n)] w fun e w' => e = .returned (.agg #[.int .u64 (tn (tnRsh a n).lo), .int .u64 (tn (tnRsh a n).hi)]) ∧ Below w.heap.size w w' := rsh_any (ofP a) n w
theorem tnArsh_any (a : P) (n : BitVec 64) (w : World) : Calls Tryz.prog 121 #[.agg #[.int .u64 (tn a.lo), .int .u64 (tn a.hi)], .int .i64 (ti n)] w fun e w' => e = .returned (.agg #[.int .u64 (tn (tnArsh a n).lo), .int .u64 (tn (tnArsh a n).hi)]) ∧ Below w.heap.size w w' := arsh_any (ofP a) n w
theorem b32_cut (x : BitVec 64) : b32 (tn x) = BitVec.setWidth 32 x := by
 apply BitVec.eq_of_toNat_eq
 unfold b32 tn
 rw [BitVec.toNat_ofInt, BitVec.toNat_setWidth]
 omega
def aluR (op : BitVec 64) (wide : Bool) (x y : BitVec 64) : BitVec 64 := bif wide then aluV 64 (ti op) x y else BitVec.setWidth 64 (aluV 32 (ti op) (BitVec.setWidth 32 x) (BitVec.setWidth 32 y))
def jmpR (op : BitVec 64) (wide : Bool) (x y : BitVec 64) : Bool := bif wide then jmpV 64 (ti op) x y else jmpV 32 (ti op) (BitVec.setWidth 32 x) (BitVec.setWidth 32 y)
theorem aluA_is (op : BitVec 64) (wide : Bool) (x y : BitVec 64) : aluA (ti op) wide (tn x) (tn y) = tn (aluR op wide x y) := by
 unfold aluA aluR
 rw [b64_tn, b64_tn, b32_cut, b32_cut]
 cases wide
 ·rw [cond_f rfl, if_neg (by decide)]
  generalize aluV 32 _ _ _ = z
  have := z.isLt
  unfold tn
  rw [BitVec.toNat_setWidth]
  omega
 ·rw [cond_t rfl, if_pos rfl]
theorem jmpA_is (op : BitVec 64) (wide : Bool) (x y : BitVec 64) : jmpA (ti op) wide (tn x) (tn y) = jmpR op wide x y := by
 unfold jmpA jmpR
 rw [b64_tn, b64_tn, b32_cut, b32_cut]
 cases wide
 ·rw [cond_f rfl, if_neg (by decide)]
 ·rw [cond_t rfl, if_pos rfl]
theorem wAlu_any (op : BitVec 64) (wide : Bool) (x y : BitVec 64) (w : World) : Calls Tryz.prog 11 #[.int .i64 (ti op), .bool wide, .int .u64 (tn x), .int .u64 (tn y)] w fun e w' => e = .returned (.tuple #[.int .u64 (tn (aluR op wide x y)), .bool (aluIs (ti op))]) ∧ Below w.heap.size w w' :=
 (WordA.alu_any (ti op) wide (tn x) (tn y) w (tn_lo _) (tn_hi64 _) (tn_lo _) (tn_hi64 _)).mono fun e w' h => ⟨by rw [h.1, aluA_is], h.2 ▸ Below.refl _ _⟩
theorem wJump_any (op : BitVec 64) (wide : Bool) (x y : BitVec 64) (w : World) : Calls Tryz.prog 13 #[.int .i64 (ti op), .bool wide, .int .u64 (tn x), .int .u64 (tn y)] w fun e w' => e = .returned (.tuple #[.bool (jmpR op wide x y), .bool (jmpIs (ti op))]) ∧ Below w.heap.size w w' :=
 (WordA.jump_any (ti op) wide (tn x) (tn y) w (tn_lo _) (tn_hi64 _) (tn_lo _) (tn_hi64 _)).mono fun e w' h => ⟨by rw [h.1, jmpA_is], h.2 ▸ Below.refl _ _⟩
end Go.Proofs.YtmcapfbkedfdkaaGreatDoor.Sp
