/-
  Tnums as pairs of bit vectors; the contracts of tnum's small functions.
-/
import Derived.Test.YtpbhfpogbndljaaDoorNum
import Derived.Test.YtpbhfpogbndljaaDoorRows
import Derived.WalkKit
import Derived.WalkSpells
import Derived.WalkLawsBesides
import Derived.ProofKit
import Derived.Below
namespace Go.Proofs.YtpbhfpogbndljaaDoor.Tn
open Go.RowKit Go.Proofs.YtpbhfpogbndljaaDoor.Num
/-- A tnum: its value, its mask. -/
structure T where
  v : BitVec 64
  m : BitVec 64
def T.val (x : T) : Value := .agg #[.int .u64 (tn x.v), .int .u64 (tn x.m)]
def T.lo (x : T) : BitVec 64 := x.v &&& ~~~x.m
def T.hi (x : T) : BitVec 64 := x.v ||| x.m
theorem orT (x y : BitVec 64) : bits .or .u64 (tn x) (tn y) = tn (x ||| y) := by rw [or64, b64_tn, b64_tn]
theorem andT (x y : BitVec 64) : bits .and .u64 (tn x) (tn y) = tn (x &&& y) := by rw [and64, b64_tn, b64_tn]
theorem xorT (x y : BitVec 64) : bits .xor .u64 (tn x) (tn y) = tn (x ^^^ y) := by rw [xor64, b64_tn, b64_tn]
theorem andn64 (a b : Int) : bits .andNot .u64 a b = tn (b64 a &&& ~~~ b64 b) := wrapNat64 _
theorem andNotT (x y : BitVec 64) : bits .andNot .u64 (tn x) (tn y) = tn (x &&& ~~~y) := by rw [andn64, b64_tn, b64_tn]
theorem or0T (x : BitVec 64) : bits .or .u64 0 (tn x) = tn x := by
  have h := orT 0#64 x
  rw [BitVec.zero_or] at h
  exact h
theorem least_any (x : T) (w : World) :
    Calls Tryd.prog 37 #[x.val] w fun e w' => e = .returned (.int .u64 (tn x.lo)) ∧ Below w.heap.size w w' := by
  obtain ⟨v, m⟩ := x
  unfold T.val T.lo
  simp only
  go_enter Tryd.func37, Tryd.ntmps37
  go_wp2
  go_ret
  exact ⟨by rw [andNotT]; rfl, (Below.refl _ _).alloc (Nat.le_refl _) _⟩
theorem most_any (x : T) (w : World) :
    Calls Tryd.prog 40 #[x.val] w fun e w' => e = .returned (.int .u64 (tn x.hi)) ∧ Below w.heap.size w w' := by
  obtain ⟨v, m⟩ := x
  unfold T.val T.hi
  simp only
  go_enter Tryd.func40, Tryd.ntmps40
  go_wp2
  go_ret
  exact ⟨by rw [orT]; rfl, (Below.refl _ _).alloc (Nat.le_refl _) _⟩
theorem agg2 {a b c d : Int} (h : a = c) (k : b = d) : Value.agg #[.int .u64 a, .int .u64 b] = .agg #[.int .u64 c, .int .u64 d] := by rw [h, k]
theorem except_any (v m : BitVec 64) (w : World) :
    Calls Tryd.prog 41 #[.int .u64 (tn v), .int .u64 (tn m)] w fun e w' => e = .returned (T.mk (v &&& ~~~m) m).val ∧ Below w.heap.size w w' := by
  go_enter Tryd.func41, Tryd.ntmps41
  go_wp2
  exact bodyPost_ret (v := (T.mk (v &&& ~~~m) m).val) (by simp [results, Tryd.results41, go_sem]; exact agg2 (andNotT _ _) rfl) rfl ⟨rfl, (Below.refl _ _).alloc (Nat.le_refl _) _⟩
theorem between_any (v m : BitVec 64) (w : World) :
    Calls Tryd.prog 42 #[.int .u64 (tn v), .int .u64 (tn m)] w fun e w' => e = .returned (T.mk v (v ^^^ m)).val ∧ Below w.heap.size w w' := by
  go_enter Tryd.func42, Tryd.ntmps42
  go_wp2
  exact bodyPost_ret (v := (T.mk v (v ^^^ m)).val) (by simp [results, Tryd.results42, go_sem]; exact agg2 rfl (xorT _ _)) rfl ⟨rfl, (Below.refl _ _).alloc (Nat.le_refl _) _⟩
theorem of_any (v : BitVec 64) (w : World) :
    Calls Tryd.prog 7 #[.int .u64 (tn v)] w fun e w' => e = .returned (T.mk v 0#64).val ∧ Below w.heap.size w w' := by
  go_enter Tryd.func7, Tryd.ntmps7
  go_wp2
  exact bodyPost_ret (v := (T.mk v 0#64).val) (by simp [results, Tryd.results7, go_sem]; rfl) rfl ⟨rfl, (Below.refl _ _).alloc (Nat.le_refl _) _⟩
theorem all_any (w : World) :
    Calls Tryd.prog 8 #[] w fun e w' => e = .returned (T.mk 0#64 (BitVec.allOnes 64)).val ∧ Below w.heap.size w w' := by
  go_enter Tryd.func8, Tryd.ntmps8
  go_wp2
  exact bodyPost_ret (v := (T.mk 0#64 (BitVec.allOnes 64)).val) (by simp [results, Tryd.results8, go_sem]; rfl) rfl ⟨rfl, (Below.refl _ _).alloc (Nat.le_refl _) _⟩
/-- Block b holds these tnums, one behind the other. -/
def B1 (w : World) (b : Nat) (x : T) : Prop := w.heap[b]? = some (.cells #[.int .u64 (tn x.v), .int .u64 (tn x.m)] 24 (0, 0))
def B2 (w : World) (b : Nat) (x y : T) : Prop := w.heap[b]? = some (.cells #[.int .u64 (tn x.v), .int .u64 (tn x.m), .int .u64 (tn y.v), .int .u64 (tn y.m)] 24 (0, 0))
theorem B1.cells {w : World} {b : Nat} {x : T} (h : B1 w b x) : w.cell? ⟨b, 0, none⟩ = some (.int .u64 (tn x.v)) ∧ w.cell? ⟨b, 1, none⟩ = some (.int .u64 (tn x.m)) := by
  unfold B1 at h
  constructor <;> simp [World.cell?, h]
theorem B2.cells {w : World} {b : Nat} {x y : T} (h : B2 w b x y) : w.cell? ⟨b, 0, none⟩ = some (.int .u64 (tn x.v)) ∧ w.cell? ⟨b, 1, none⟩ = some (.int .u64 (tn x.m)) ∧ w.cell? ⟨b, 2, none⟩ = some (.int .u64 (tn y.v)) ∧ w.cell? ⟨b, 3, none⟩ = some (.int .u64 (tn y.m)) := by
  unfold B2 at h
  refine ⟨?_, ?_, ?_, ?_⟩ <;> simp [World.cell?, h]
theorem unk1_any (b : Nat) (x : T) (w : World) (h : B1 w b x) :
    Calls Tryd.prog 35 #[.slice (some ⟨b, 0, none⟩) 1 1] w fun e w' => e = .returned (.int .u64 (tn x.m)) ∧ Below w.heap.size w w' := by
  obtain ⟨c0, c1⟩ := h.cells
  clear h
  go_enter Tryd.func35, Tryd.ntmps35
  go_wp2
  refine wp_loop_rounds 2 ?_
  rw [rounds_succ]
  go_wp2
  rw [rounds_succ]
  go_wp2
  go_ret
  exact ⟨by rw [or0T]; rfl, (Below.refl _ _).alloc (Nat.le_refl _) _⟩
theorem unk2_any (b : Nat) (x y : T) (w : World) (h : B2 w b x y) (hb : b < w.heap.size) :
    Calls Tryd.prog 35 #[.slice (some ⟨b, 0, none⟩) 2 2] w fun e w' => e = .returned (.int .u64 (tn (x.m ||| y.m))) ∧ Below w.heap.size w w' := by
  obtain ⟨c0, c1, c2, c3⟩ := h.cells
  clear h
  go_enter Tryd.func35, Tryd.ntmps35
  go_wp2
  refine wp_loop_rounds 3 ?_
  rw [rounds_succ]
  go_wp2
  rw [rounds_succ]
  go_wp2
  rw [rounds_succ]
  go_wp2
  go_ret
  exact ⟨by rw [or0T, orT]; rfl, ((Below.refl _ _).alloc (Nat.le_refl _) _).alloc (by simp) _⟩
end Go.Proofs.YtpbhfpogbndljaaDoor.Tn
