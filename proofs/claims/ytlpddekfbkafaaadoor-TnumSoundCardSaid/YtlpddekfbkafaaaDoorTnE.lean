/-
  some, works.
-/
import Derived.Test.YtlpddekfbkafaaaDoorTnC
namespace Go.Proofs.YtlpddekfbkafaaaDoor.Tn
open Go.RowKit Go.Proofs.YtlpddekfbkafaaaDoor.Num Go.Proofs.YtlpddekfbkafaaaDoor.Up
def someR (a : T) (v : BitVec 64) : BitVec 64 := a.lo ||| (v &&& a.m)
theorem some_any (a : T) (v : BitVec 64) (w : World) :
    Calls Tryd.prog 33 #[a.val, .int .u64 (tn v)] w fun e w' => e = .returned (.int .u64 (tn (someR a v))) ∧ Below w.heap.size w w' := by
  obtain ⟨av, am⟩ := a
  unfold T.val someR T.lo
  simp only
  go_enter Tryd.func33, Tryd.ntmps33
  go_wp2
  go_ret
  exact ⟨by rw [andNotT, andT, orT]; rfl, (Below.refl _ _).alloc (Nat.le_refl _) _⟩
theorem within_is {a b : T} {w : World} {r : Bool} (h : withinB a b = r) : Calls Tryd.prog 28 #[a.val, b.val] w fun e w' => e = .returned (.bool r) ∧ Below w.heap.size w w' := h ▸ within_any a b w
theorem in_is {a : T} {v : BitVec 64} {w : World} {r : Bool} (h : inB a v = r) : Calls Tryd.prog 26 #[a.val, .int .u64 (tn v)] w fun e w' => e = .returned (.bool r) ∧ Below w.heap.size w w' := h ▸ in_any a v w
def exA : T := ⟨4#64, 3#64⟩
def exB : T := ⟨5#64, 9223372036854775808#64⟩
theorem meet_is {a b r : T} {w : World} {q : Bool} (h : meetR a b = r) (k : (!noneB a b) = q) : Calls Tryd.prog 24 #[a.val, b.val] w fun e w' => e = .returned (.tuple #[r.val, .bool q]) ∧ Below w.heap.size w w' := h ▸ k ▸ meet_any a b w
theorem add_is {a b r : T} {w : World} (h : addR a b = r) : Calls Tryd.prog 12 #[a.val, b.val] w fun e w' => e = .returned r.val ∧ Below w.heap.size w w' := h ▸ add_any a b w
theorem or_is {a b r : T} {w : World} (h : orR a b = r) : Calls Tryd.prog 8 #[a.val, b.val] w fun e w' => e = .returned r.val ∧ Below w.heap.size w w' := h ▸ or_any a b w
theorem and_is {a b r : T} {w : World} (h : andR a b = r) : Calls Tryd.prog 6 #[a.val, b.val] w fun e w' => e = .returned r.val ∧ Below w.heap.size w w' := h ▸ and_any a b w
theorem wk1 : meetR exA exB = ofR 5#64 ∧ (!noneB exA exB) = true ∧ meetR exA (ofR 8#64) = ⟨0#64, 0#64⟩ ∧ (!noneB exA (ofR 8#64)) = false := by
  refine ⟨?_, ?_, ?_, ?_⟩ <;> rfl
theorem wk2 : addR exA (ofR 1#64) = ⟨0#64, 15#64⟩ ∧ orR exA (ofR 1#64) = ⟨5#64, 2#64⟩ ∧ andR exA (ofR 1#64) = ⟨0#64, 1#64⟩ ∧ inB exA 7#64 = true ∧ inB exA 8#64 = false := by
  refine ⟨?_, ?_, ?_, ?_, ?_⟩ <;> rfl
set_option maxRecDepth 100000 in
set_option maxHeartbeats 2000000 in
theorem works_any (w : World) :
    Calls Tryd.prog 32 #[] w fun e w' => e = .returned (.bool true) ∧ Below w.heap.size w w' := by
  have HS := one_start w exA
  go_enter Tryd.func32, Tryd.ntmps32
  go_upto_region 2 with fail
  obtain ⟨W0, hW0⟩ : ∃ W0, W0 = w.alloc (.cells #[.int .u64 (tn exA.v), .int .u64 (tn exA.m)] 24) := ⟨_, rfl⟩
  rw [← hW0] at HS
  have e4 : (Value.int .u64 4) = .int .u64 (tn exA.v) := rfl
  have e3 : (Value.int .u64 3) = .int .u64 (tn exA.m) := rfl
  rw [e4, e3, ← hW0]
  clear hW0 e4 e3
  have HA := hid HS.2
  have HB := hid HS.1
  clear HS
  -- region 2
  refine lin_begin (Below W0.heap.size W0) rfl (Below.refl _ _) ?_
  refine lin_val (i := 0) rfl rfl (by rfl) (by intro x hx; have f := (HA.out.up hx).cells; obtain ⟨f0, f1⟩ := f; go_simp; (first | done | exact rfl)) ?_
  simp only [List.set_cons_succ, List.set_cons_zero]
  refine lin_val (i := 1) (v := exB.val) rfl rfl (by rfl) (by intro x hx; go_simp; (first | done | exact rfl)) ?_
  simp only [List.set_cons_succ, List.set_cons_zero]
  refine lin_call (i := 2) (f := 24) (args := #[exA.val, exB.val]) (ups_below (Nat.le_refl _)) rfl rfl (by rfl) (fun x hx => by kernel_rfl) (by intro x hx; exact meet_is wk1.1 wk1.2.1) ?_
  simp only [List.set_cons_succ, List.set_cons_zero]
  refine lin_val (i := 3) rfl rfl (by rfl) (by intro x hx; go_simp; (first | done | exact rfl)) ?_
  simp only [List.set_cons_succ, List.set_cons_zero]
  refine lin_val (i := 4) rfl rfl (by rfl) (by intro x hx; go_simp; (first | done | exact rfl)) ?_
  simp only [List.set_cons_succ, List.set_cons_zero]
  refine lin_val (i := 5) rfl rfl (by rfl) (by intro x hx; go_simp; (first | done | exact rfl)) ?_
  simp only [List.set_cons_succ, List.set_cons_zero]
  refine lin_make_as (i := 6) (ups_below (Nat.le_refl _)) rfl rfl (by rfl) (.cells #[.int .u64 0, .int .u64 0] 24 (0, 0)) (fun k => .pointer (some ⟨k, 0, none⟩)) (RoomAt W0.heap.size) (fun x hx => roomAt_new hx _ _) (by intro x hx; go_simp; (first | done | exact rfl)) (fun k1 => ?_)
  simp only [List.set_cons_succ, List.set_cons_zero]
  refine lin_store (i := 7) (fun x => Below W0.heap.size W0 x ∧ Has W0.heap.size k1 (ofR 5#64) x) rfl rfl (by rfl) (Put2 k1 _ _) (by intro x hx; obtain ⟨hx, rm⟩ := hx; obtain ⟨z0, z1, z2, z3, z4, z5⟩ := rm.2.facts; (try unfold T.val); go_simp; (first | done | rfl)) (by intro x hx; exact room_put (ofR 5#64) x hx) ?_
  refine lin_val (i := 8) rfl rfl (by rfl) (by intro x hx; go_simp; (first | done | exact rfl)) ?_
  simp only [List.set_cons_succ, List.set_cons_zero]
  refine lin_done ?_
  intro W1 hx
  obtain ⟨hx, hh⟩ := hx
  replace HA := hid (HA.out.up hx)
  replace HB := hid (HB.out.trans (hx.mono HB.out.size))
  have HM := hid hh.2
  clear hh
  clear hx
  go_upto_region 3 with fail
  -- region 3
  refine up_begin (Below W1.heap.size W1) 9 rfl (by kernel_rfl) ((Below.refl _ _).drew) ?_
  refine take_val (i := 0) (ups_below (Nat.le_refl _)) rfl rfl (by kernel_rfl) (fun _ _ _ h => h) (by rfl) (by intro x hx; have f := (HA.out.up hx).cells; obtain ⟨f0, f1⟩ := f; go_simp; (first | done | exact rfl)) ?_
  simp only [List.set_cons_succ, List.set_cons_zero]
  refine take_call (i := 1) (f := 36) (args := #[.int .u64 8]) (ups_below (Nat.le_refl _)) rfl rfl (by kernel_rfl) (fun _ _ _ h => h) (by rfl) (fun x hx => by kernel_rfl) (by intro x hx; exact of_any 8#64 _) ?_
  simp only [List.set_cons_succ, List.set_cons_zero]
  refine take_call (i := 2) (f := 24) (args := #[exA.val, (ofR 8#64).val]) (ups_below (Nat.le_refl _)) rfl rfl (by kernel_rfl) (fun _ _ _ h => h) (by rfl) (fun x hx => by kernel_rfl) (by intro x hx; exact meet_is wk1.2.2.1 wk1.2.2.2) ?_
  simp only [List.set_cons_succ, List.set_cons_zero]
  refine take_val (i := 3) (ups_below (Nat.le_refl _)) rfl rfl (by kernel_rfl) (fun _ _ _ h => h) (by rfl) (by intro x hx; go_simp; (first | done | exact rfl)) ?_
  simp only [List.set_cons_succ, List.set_cons_zero]
  refine take_val (i := 4) (ups_below (Nat.le_refl _)) rfl rfl (by kernel_rfl) (fun _ _ _ h => h) (by rfl) (by intro x hx; go_simp; (first | done | exact rfl)) ?_
  simp only [List.set_cons_succ, List.set_cons_zero]
  refine take_val (i := 5) (ups_below (Nat.le_refl _)) rfl rfl (by kernel_rfl) (fun _ _ _ h => h) (by rfl) (by intro x hx; go_simp; (first | done | exact rfl)) ?_
  simp only [List.set_cons_succ, List.set_cons_zero]
  refine take_one (i := 6) (by kernel_rfl) (step_make_as (ups_below (Nat.le_refl _)) rfl rfl (by rfl) (.cells #[.int .u64 0, .int .u64 0] 24 (0, 0)) (fun k => .pointer (some ⟨k, 0, none⟩)) (RoomAt W1.heap.size) (roomAt_ups _) (fun x hx => roomAt_new hx _ _) (by intro x hx; go_simp; (first | done | exact rfl)) (fun k2 => ?_))
  simp only [List.set_cons_succ, List.set_cons_zero]
  refine take_one (i := 7) (by kernel_rfl) (step_store (fun x => Below W1.heap.size W1 x ∧ Has W1.heap.size k2 (⟨0#64, 0#64⟩) x) (ups_and (ups_below (Nat.le_refl _)) (has_ups _ _ _)) (has_room) rfl rfl (by rfl) (Put2 k2 _ _) (by intro x hx; obtain ⟨hx, rm⟩ := hx; obtain ⟨z0, z1, z2, z3, z4, z5⟩ := rm.2.facts; (try unfold T.val); go_simp; (first | done | rfl)) (by intro x hx; exact room_put (⟨0#64, 0#64⟩) x hx) ?_)
  refine take_val (i := 8) (ups_and (ups_below (Nat.le_refl _)) (has_ups _ _ _)) rfl rfl (by kernel_rfl) (fun _ _ _ h => h) (by rfl) (by intro x hx; go_simp; (first | done | exact rfl)) ?_
  simp only [List.set_cons_succ, List.set_cons_zero]
  refine take_done (by kernel_rfl) ?_ _
  intro W2 hx
  obtain ⟨hx, hh⟩ := hx
  replace HA := hid (HA.out.up hx)
  replace HM := hid (HM.out.up hx)
  replace HB := hid (HB.out.trans (hx.mono HB.out.size))
  have HN := hid hh.2
  clear hh
  clear hx
  go_upto_region 4 with fail
  -- region 4
  refine up_begin (Below W2.heap.size W2) 41 rfl (by kernel_rfl) ((Below.refl _ _).drew) ?_
  refine take_val (i := 0) (ups_below (Nat.le_refl _)) rfl rfl (by kernel_rfl) (fun _ _ _ h => h) (by rfl) (by intro x hx; have f := (HA.out.up hx).cells; obtain ⟨f0, f1⟩ := f; go_simp; (first | done | exact rfl)) ?_
  simp only [List.set_cons_succ, List.set_cons_zero]
  refine take_call (i := 1) (f := 36) (args := #[.int .u64 1]) (ups_below (Nat.le_refl _)) rfl rfl (by kernel_rfl) (fun _ _ _ h => h) (by rfl) (fun x hx => by kernel_rfl) (by intro x hx; exact of_any 1#64 _) ?_
  simp only [List.set_cons_succ, List.set_cons_zero]
  refine take_call (i := 2) (f := 12) (args := #[exA.val, (ofR 1#64).val]) (ups_below (Nat.le_refl _)) rfl rfl (by kernel_rfl) (fun _ _ _ h => h) (by rfl) (fun x hx => by kernel_rfl) (by intro x hx; exact add_is wk2.1) ?_
  simp only [List.set_cons_succ, List.set_cons_zero]
  refine take_val (i := 3) (ups_below (Nat.le_refl _)) rfl rfl (by kernel_rfl) (fun _ _ _ h => h) (by rfl) (by intro x hx; go_simp; (first | done | exact rfl)) ?_
  simp only [List.set_cons_succ, List.set_cons_zero]
  refine take_val (i := 4) (v := .bool true) (ups_below (Nat.le_refl _)) rfl rfl (by kernel_rfl) (fun _ _ _ h => h) (by rfl) (by intro x hx; (try unfold T.val); go_simp; (first | done | exact rfl)) ?_
  simp only [List.set_cons_succ, List.set_cons_zero]
  refine take_val (i := 5) (ups_below (Nat.le_refl _)) rfl rfl (by kernel_rfl) (fun _ _ _ h => h) (by rfl) (by intro x hx; go_simp; (first | done | exact rfl)) ?_
  simp only [List.set_cons_succ, List.set_cons_zero]
  refine take_val (i := 6) (ups_below (Nat.le_refl _)) rfl rfl (by kernel_rfl) (fun _ _ _ h => h) (by rfl) (by intro x hx; have f := (HA.out.up hx).cells; obtain ⟨f0, f1⟩ := f; go_simp; (first | done | exact rfl)) ?_
  simp only [List.set_cons_succ, List.set_cons_zero]
  refine take_call (i := 7) (f := 36) (args := #[.int .u64 1]) (ups_below (Nat.le_refl _)) rfl rfl (by kernel_rfl) (fun _ _ _ h => h) (by rfl) (fun x hx => by kernel_rfl) (by intro x hx; exact of_any 1#64 _) ?_
  simp only [List.set_cons_succ, List.set_cons_zero]
  refine take_call (i := 8) (f := 8) (args := #[exA.val, (ofR 1#64).val]) (ups_below (Nat.le_refl _)) rfl rfl (by kernel_rfl) (fun _ _ _ h => h) (by rfl) (fun x hx => by kernel_rfl) (by intro x hx; exact or_is wk2.2.1) ?_
  simp only [List.set_cons_succ, List.set_cons_zero]
  refine take_val (i := 9) (ups_below (Nat.le_refl _)) rfl rfl (by kernel_rfl) (fun _ _ _ h => h) (by rfl) (by intro x hx; go_simp; (first | done | exact rfl)) ?_
  simp only [List.set_cons_succ, List.set_cons_zero]
  refine take_val (i := 10) (v := .bool true) (ups_below (Nat.le_refl _)) rfl rfl (by kernel_rfl) (fun _ _ _ h => h) (by rfl) (by intro x hx; (try unfold T.val); go_simp; (first | done | exact rfl)) ?_
  simp only [List.set_cons_succ, List.set_cons_zero]
  refine take_val (i := 11) (ups_below (Nat.le_refl _)) rfl rfl (by kernel_rfl) (fun _ _ _ h => h) (by rfl) (by intro x hx; go_simp; (first | done | exact rfl)) ?_
  simp only [List.set_cons_succ, List.set_cons_zero]
  refine take_val (i := 12) (ups_below (Nat.le_refl _)) rfl rfl (by kernel_rfl) (fun _ _ _ h => h) (by rfl) (by intro x hx; go_simp; (first | done | exact rfl)) ?_
  simp only [List.set_cons_succ, List.set_cons_zero]
  refine take_val (i := 13) (ups_below (Nat.le_refl _)) rfl rfl (by kernel_rfl) (fun _ _ _ h => h) (by rfl) (by intro x hx; have f := (HA.out.up hx).cells; obtain ⟨f0, f1⟩ := f; go_simp; (first | done | exact rfl)) ?_
  simp only [List.set_cons_succ, List.set_cons_zero]
  refine take_call (i := 14) (f := 36) (args := #[.int .u64 1]) (ups_below (Nat.le_refl _)) rfl rfl (by kernel_rfl) (fun _ _ _ h => h) (by rfl) (fun x hx => by kernel_rfl) (by intro x hx; exact of_any 1#64 _) ?_
  simp only [List.set_cons_succ, List.set_cons_zero]
  refine take_call (i := 15) (f := 6) (args := #[exA.val, (ofR 1#64).val]) (ups_below (Nat.le_refl _)) rfl rfl (by kernel_rfl) (fun _ _ _ h => h) (by rfl) (fun x hx => by kernel_rfl) (by intro x hx; exact and_is wk2.2.2.1) ?_
  simp only [List.set_cons_succ, List.set_cons_zero]
  refine take_val (i := 16) (ups_below (Nat.le_refl _)) rfl rfl (by kernel_rfl) (fun _ _ _ h => h) (by rfl) (by intro x hx; go_simp; (first | done | exact rfl)) ?_
  simp only [List.set_cons_succ, List.set_cons_zero]
  refine take_val (i := 17) (v := .bool true) (ups_below (Nat.le_refl _)) rfl rfl (by kernel_rfl) (fun _ _ _ h => h) (by rfl) (by intro x hx; (try unfold T.val); go_simp; (first | done | exact rfl)) ?_
  simp only [List.set_cons_succ, List.set_cons_zero]
  refine take_val (i := 18) (ups_below (Nat.le_refl _)) rfl rfl (by kernel_rfl) (fun _ _ _ h => h) (by rfl) (by intro x hx; go_simp; (first | done | exact rfl)) ?_
  simp only [List.set_cons_succ, List.set_cons_zero]
  refine take_val (i := 19) (ups_below (Nat.le_refl _)) rfl rfl (by kernel_rfl) (fun _ _ _ h => h) (by rfl) (by intro x hx; go_simp; (first | done | exact rfl)) ?_
  simp only [List.set_cons_succ, List.set_cons_zero]
  refine take_val (i := 20) (ups_below (Nat.le_refl _)) rfl rfl (by kernel_rfl) (fun _ _ _ h => h) (by rfl) (by intro x hx; have f := (HM.out.up hx).cells; obtain ⟨f0, f1⟩ := f; go_simp; (first | done | exact rfl)) ?_
  simp only [List.set_cons_succ, List.set_cons_zero]
  refine take_call (i := 21) (f := 36) (args := #[.int .u64 5]) (ups_below (Nat.le_refl _)) rfl rfl (by kernel_rfl) (fun _ _ _ h => h) (by rfl) (fun x hx => by kernel_rfl) (by intro x hx; exact of_any 5#64 _) ?_
  simp only [List.set_cons_succ, List.set_cons_zero]
  refine take_val (i := 22) (v := .bool true) (ups_below (Nat.le_refl _)) rfl rfl (by kernel_rfl) (fun _ _ _ h => h) (by rfl) (by intro x hx; (try unfold T.val); go_simp; (first | done | exact rfl)) ?_
  simp only [List.set_cons_succ, List.set_cons_zero]
  refine take_val (i := 23) (ups_below (Nat.le_refl _)) rfl rfl (by kernel_rfl) (fun _ _ _ h => h) (by rfl) (by intro x hx; go_simp; (first | done | exact rfl)) ?_
  simp only [List.set_cons_succ, List.set_cons_zero]
  refine take_val (i := 24) (ups_below (Nat.le_refl _)) rfl rfl (by kernel_rfl) (fun _ _ _ h => h) (by rfl) (by intro x hx; go_simp; (first | done | exact rfl)) ?_
  simp only [List.set_cons_succ, List.set_cons_zero]
  refine take_val (i := 25) (ups_below (Nat.le_refl _)) rfl rfl (by kernel_rfl) (fun _ _ _ h => h) (by rfl) (by intro x hx; go_simp; (first | done | exact rfl)) ?_
  simp only [List.set_cons_succ, List.set_cons_zero]
  refine take_val (i := 26) (ups_below (Nat.le_refl _)) rfl rfl (by kernel_rfl) (fun _ _ _ h => h) (by rfl) (by intro x hx; go_simp; (first | done | exact rfl)) ?_
  simp only [List.set_cons_succ, List.set_cons_zero]
  refine take_val (i := 27) (ups_below (Nat.le_refl _)) rfl rfl (by kernel_rfl) (fun _ _ _ h => h) (by rfl) (by intro x hx; go_simp; (first | done | exact rfl)) ?_
  simp only [List.set_cons_succ, List.set_cons_zero]
  refine take_val (i := 28) (ups_below (Nat.le_refl _)) rfl rfl (by kernel_rfl) (fun _ _ _ h => h) (by rfl) (by intro x hx; go_simp; (first | done | exact rfl)) ?_
  simp only [List.set_cons_succ, List.set_cons_zero]
  refine take_val (i := 29) (ups_below (Nat.le_refl _)) rfl rfl (by kernel_rfl) (fun _ _ _ h => h) (by rfl) (by intro x hx; go_simp; (first | done | exact rfl)) ?_
  simp only [List.set_cons_succ, List.set_cons_zero]
  refine take_val (i := 30) (ups_below (Nat.le_refl _)) rfl rfl (by kernel_rfl) (fun _ _ _ h => h) (by rfl) (by intro x hx; go_simp; (first | done | exact rfl)) ?_
  simp only [List.set_cons_succ, List.set_cons_zero]
  refine take_val (i := 31) (ups_below (Nat.le_refl _)) rfl rfl (by kernel_rfl) (fun _ _ _ h => h) (by rfl) (by intro x hx; go_simp; (first | done | exact rfl)) ?_
  simp only [List.set_cons_succ, List.set_cons_zero]
  refine take_val (i := 32) (ups_below (Nat.le_refl _)) rfl rfl (by kernel_rfl) (fun _ _ _ h => h) (by rfl) (by intro x hx; have f := (HA.out.up hx).cells; obtain ⟨f0, f1⟩ := f; go_simp; (first | done | exact rfl)) ?_
  simp only [List.set_cons_succ, List.set_cons_zero]
  refine take_call (i := 33) (f := 26) (args := #[exA.val, .int .u64 7]) (ups_below (Nat.le_refl _)) rfl rfl (by kernel_rfl) (fun _ _ _ h => h) (by rfl) (fun x hx => by kernel_rfl) (by intro x hx; exact in_is (a := exA) (v := 7#64) wk2.2.2.2.1) ?_
  simp only [List.set_cons_succ, List.set_cons_zero]
  refine take_val (i := 34) (ups_below (Nat.le_refl _)) rfl rfl (by kernel_rfl) (fun _ _ _ h => h) (by rfl) (by intro x hx; go_simp; (first | done | exact rfl)) ?_
  simp only [List.set_cons_succ, List.set_cons_zero]
  refine take_val (i := 35) (ups_below (Nat.le_refl _)) rfl rfl (by kernel_rfl) (fun _ _ _ h => h) (by rfl) (by intro x hx; go_simp; (first | done | exact rfl)) ?_
  simp only [List.set_cons_succ, List.set_cons_zero]
  refine take_val (i := 36) (ups_below (Nat.le_refl _)) rfl rfl (by kernel_rfl) (fun _ _ _ h => h) (by rfl) (by intro x hx; have f := (HA.out.up hx).cells; obtain ⟨f0, f1⟩ := f; go_simp; (first | done | exact rfl)) ?_
  simp only [List.set_cons_succ, List.set_cons_zero]
  refine take_call (i := 37) (f := 26) (args := #[exA.val, .int .u64 8]) (ups_below (Nat.le_refl _)) rfl rfl (by kernel_rfl) (fun _ _ _ h => h) (by rfl) (fun x hx => by kernel_rfl) (by intro x hx; exact in_is (a := exA) (v := 8#64) wk2.2.2.2.2) ?_
  simp only [List.set_cons_succ, List.set_cons_zero]
  refine take_val (i := 38) (ups_below (Nat.le_refl _)) rfl rfl (by kernel_rfl) (fun _ _ _ h => h) (by rfl) (by intro x hx; go_simp; (first | done | exact rfl)) ?_
  simp only [List.set_cons_succ, List.set_cons_zero]
  refine take_val (i := 39) (ups_below (Nat.le_refl _)) rfl rfl (by kernel_rfl) (fun _ _ _ h => h) (by rfl) (by intro x hx; go_simp; (first | done | exact rfl)) ?_
  simp only [List.set_cons_succ, List.set_cons_zero]
  refine take_val (i := 40) (ups_below (Nat.le_refl _)) rfl rfl (by kernel_rfl) (fun _ _ _ h => h) (by rfl) (by intro x hx; go_simp; (first | done | exact rfl)) ?_
  simp only [List.set_cons_zero]
  refine take_done (by kernel_rfl) ?_ _
  intro W3 hx
  replace HA := hid (HA.out.up hx)
  replace HM := hid (HM.out.up hx)
  replace HN := hid (HN.out.up hx)
  replace HB := hid (HB.out.trans (hx.mono HB.out.size))
  clear hx
  go_wp2
  go_ret
  exact ⟨rfl, HB.out⟩
end Go.Proofs.YtlpddekfbkafaaaDoor.Tn
