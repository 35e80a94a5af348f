/-
  some, works.
-/
import Derived.Test.YtmcapfbkedfdkaaGreatDoorTnC
namespace Go.Proofs.YtmcapfbkedfdkaaGreatDoor.Tn
open Go.RowKit Go.Proofs.YtmcapfbkedfdkaaGreatDoor.Num Go.Proofs.YtmcapfbkedfdkaaGreatDoor.Up
def someR (a : T) (v : BitVec 64) : BitVec 64 := a.lo ||| (v &&& a.m)
theorem within_is {a b : T} {w : World} {r : Bool} (h : withinB a b = r) : Calls Tryz.prog 84 #[a.val, b.val] w fun e w' => e = .returned (.bool r) ∧ Below w.heap.size w w' := h ▸ within_any a b w
theorem in_is {a : T} {v : BitVec 64} {w : World} {r : Bool} (h : inB a v = r) : Calls Tryz.prog 32 #[a.val, .int .u64 (tn v)] w fun e w' => e = .returned (.bool r) ∧ Below w.heap.size w w' := h ▸ in_any a v w
def exA : T := ⟨4#64, 3#64⟩
def exB : T := ⟨5#64, 9223372036854775808#64⟩
theorem meet_is {a b r : T} {w : World} {q : Bool} (h : meetR a b = r) (k : (!noneB a b) = q) : Calls Tryz.prog 54 #[a.val, b.val] w fun e w' => e = .returned (.tuple #[r.val, .bool q]) ∧ Below w.heap.size w w' := h ▸ k ▸ meet_any a b w
theorem add_is {a b r : T} {w : World} (h : addR a b = r) : Calls Tryz.prog 60 #[a.val, b.val] w fun e w' => e = .returned r.val ∧ Below w.heap.size w w' := h ▸ add_any a b w
theorem or_is {a b r : T} {w : World} (h : orR a b = r) : Calls Tryz.prog 69 #[a.val, b.val] w fun e w' => e = .returned r.val ∧ Below w.heap.size w w' := h ▸ or_any a b w
theorem and_is {a b r : T} {w : World} (h : andR a b = r) : Calls Tryz.prog 67 #[a.val, b.val] w fun e w' => e = .returned r.val ∧ Below w.heap.size w w' := h ▸ and_any a b w
theorem wk1 : meetR exA exB = ofR 5#64 ∧ (!noneB exA exB) = true ∧ meetR exA (ofR 8#64) = ⟨0#64, 0#64⟩ ∧ (!noneB exA (ofR 8#64)) = false := by
 refine ⟨?_, ?_, ?_, ?_⟩ <;> rfl
theorem wk2 : addR exA (ofR 1#64) = ⟨0#64, 15#64⟩ ∧ orR exA (ofR 1#64) = ⟨5#64, 2#64⟩ ∧ andR exA (ofR 1#64) = ⟨0#64, 1#64⟩ ∧ inB exA 7#64 = true ∧ inB exA 8#64 = false := by
 refine ⟨?_, ?_, ?_, ?_, ?_⟩ <;> rfl
end Go.Proofs.YtmcapfbkedfdkaaGreatDoor.Tn
