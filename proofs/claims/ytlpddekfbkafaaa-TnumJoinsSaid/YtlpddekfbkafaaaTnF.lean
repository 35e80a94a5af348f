/-
  The walk of the law TnumJoins.
-/
import Derived.Test.YtlpddekfbkafaaaTnE
import Derived.Test.YtlpddekfbkafaaaTnM
namespace Go.Proofs.Ytlpddekfbkafaaa.Tn
open Go.RowKit Go.Proofs.Ytlpddekfbkafaaa.Num Go.Proofs.Ytlpddekfbkafaaa.Up
def cellsT (a : T) : Obj := .cells #[.int .u64 (tn a.v), .int .u64 (tn a.m)] 24
theorem boxes3 (w : World) (a b c : T) : Below w.heap.size w (((w.alloc (cellsT a)).alloc (cellsT b)).alloc (cellsT c)) ∧ B1 (((w.alloc (cellsT a)).alloc (cellsT b)).alloc (cellsT c)) w.heap.size a ∧ B1 (((w.alloc (cellsT a)).alloc (cellsT b)).alloc (cellsT c)) (w.heap.size + 1) b ∧ B1 (((w.alloc (cellsT a)).alloc (cellsT b)).alloc (cellsT c)) (w.heap.size + 2) c := by
  refine ⟨((((Below.refl _ _).alloc (Nat.le_refl _) _).alloc (by simp) _).alloc (by simp; omega) _), heap_old (heap_old (heap_new _ _) _) _, heap_old ?_ _, ?_⟩
  · have h := heap_new (w.alloc (cellsT a)) (cellsT b)
    rw [show (w.alloc (cellsT a)).heap.size = w.heap.size + 1 by simp] at h
    exact h
  · have h := heap_new ((w.alloc (cellsT a)).alloc (cellsT b)) (cellsT c)
    rw [show ((w.alloc (cellsT a)).alloc (cellsT b)).heap.size = w.heap.size + 2 by simp] at h
    exact h
set_option maxRecDepth 100000 in
set_option maxHeartbeats 8000000 in
theorem tnumJoins (a b c : T) (v : BitVec 64) (w : World) :
    Calls Try.prog 3 #[a.val, b.val, c.val, .int .u64 (tn v)] w fun e w' => e = .returned (.bool true) ∧ Below w.heap.size w w' := by
  have HS := boxes3 w a b c
  unfold T.val
  go_enter Try.func3, Try.ntmps3
  go_upto_region 1 with fail
  obtain ⟨W0, hW0⟩ : ∃ W0, W0 = ((w.alloc (cellsT a)).alloc (cellsT b)).alloc (cellsT c) := ⟨_, rfl⟩
  rw [← hW0] at HS
  unfold cellsT at hW0
  rw [← hW0]
  clear hW0
  have HA := hid HS.2.1
  have HBb := hid HS.2.2.1
  have HC := hid HS.2.2.2
  have HB := hid HS.1
  clear HS
  -- region 1
  refine lin_begin (Below W0.heap.size W0) rfl (Below.refl _ _) ?_
  refine lin_val (i := 0) rfl rfl (by rfl) (by intro x hx; have f := (HA.out.up hx).cells; obtain ⟨f0, f1⟩ := f; go_simp; (first | done | exact rfl)) ?_
  simp only [List.set_cons_succ, List.set_cons_zero]
  refine lin_val (i := 1) rfl rfl (by rfl) (by intro x hx; have f := (HBb.out.up hx).cells; obtain ⟨f0, f1⟩ := f; go_simp; (first | done | exact rfl)) ?_
  simp only [List.set_cons_succ, List.set_cons_zero]
  refine lin_call (i := 2) (f := 5) (args := #[a.val, b.val]) (ups_below (Nat.le_refl _)) rfl rfl (by rfl) (fun x hx => by kernel_rfl) (by intro x hx; exact join_any a b _) ?_
  simp only [List.set_cons_succ, List.set_cons_zero]
  refine lin_make_as (i := 3) (ups_below (Nat.le_refl _)) rfl rfl (by rfl) (.cells #[.int .u64 0, .int .u64 0] 24 (0, 0)) (fun k => .pointer (some ⟨k, 0, none⟩)) (RoomAt W0.heap.size) (fun x hx => roomAt_new hx _ _) (by intro x hx; go_simp; (first | done | exact rfl)) (fun k1 => ?_)
  simp only [List.set_cons_succ, List.set_cons_zero]
  refine lin_store (i := 4) (fun x => Below W0.heap.size W0 x ∧ Has W0.heap.size k1 (joinR a b) x) rfl rfl (by rfl) (Put2 k1 _ _) (by intro x hx; obtain ⟨hx, rm⟩ := hx; obtain ⟨z0, z1, z2, z3, z4, z5⟩ := rm.2.facts; (try unfold T.val); go_simp; (first | done | rfl)) (by intro x hx; exact room_put (joinR a b) x hx) ?_
  refine lin_done ?_
  intro W1 hx
  obtain ⟨hx, hh⟩ := hx
  replace HA := hid (HA.out.up hx)
  replace HBb := hid (HBb.out.up hx)
  replace HC := hid (HC.out.up hx)
  replace HB := hid (HB.out.trans (hx.mono HB.out.size))
  have HJ := hid hh.2
  clear hh
  clear hx
  go_upto_region 2 with fail
  -- region 2
  go_cut [41] (fun p wx => p = .bool false ∧ Below W1.heap.size W1 wx)
  case first =>
    rcases ways_two (withinB a c) (withinB b c) with h | ⟨h, k⟩ | ⟨h, k⟩
    · refine lin_begin (Below W1.heap.size W1) rfl (Below.refl _ _) ?_
      refine lin_val (i := 0) rfl rfl (by rfl) (by intro x hx; have f := (HA.out.up hx).cells; obtain ⟨f0, f1⟩ := f; go_simp; (first | done | exact rfl)) ?_
      simp only [List.set_cons_succ, List.set_cons_zero]
      refine lin_val (i := 1) rfl rfl (by rfl) (by intro x hx; have f := (HJ.out.up hx).cells; obtain ⟨f0, f1⟩ := f; go_simp; (first | done | exact rfl)) ?_
      simp only [List.set_cons_succ, List.set_cons_zero]
      refine lin_call (i := 2) (f := 6) (args := #[(a).val, (joinR a b).val]) (ups_below (Nat.le_refl _)) rfl rfl (by rfl) (fun x hx => by kernel_rfl) (by intro x hx; exact within_is (a := a) (b := joinR a b) (join_left a b)) ?_
      simp only [List.set_cons_succ, List.set_cons_zero]
      refine lin_val (i := 3) rfl rfl (by rfl) (by intro x hx; go_simp; (first | done | exact rfl)) ?_
      simp only [List.set_cons_succ, List.set_cons_zero]
      refine lin_val (i := 4) rfl rfl (by rfl) (by intro x hx; go_simp; (first | done | exact rfl)) ?_
      simp only [List.set_cons_succ, List.set_cons_zero]
      refine lin_val (i := 5) rfl rfl (by rfl) (by intro x hx; have f := (HBb.out.up hx).cells; obtain ⟨f0, f1⟩ := f; go_simp; (first | done | exact rfl)) ?_
      simp only [List.set_cons_succ, List.set_cons_zero]
      refine lin_val (i := 6) rfl rfl (by rfl) (by intro x hx; have f := (HJ.out.up hx).cells; obtain ⟨f0, f1⟩ := f; go_simp; (first | done | exact rfl)) ?_
      simp only [List.set_cons_succ, List.set_cons_zero]
      refine lin_call (i := 7) (f := 6) (args := #[(b).val, (joinR a b).val]) (ups_below (Nat.le_refl _)) rfl rfl (by rfl) (fun x hx => by kernel_rfl) (by intro x hx; exact within_is (a := b) (b := joinR a b) (join_right a b)) ?_
      simp only [List.set_cons_succ, List.set_cons_zero]
      refine lin_val (i := 8) rfl rfl (by rfl) (by intro x hx; go_simp; (first | done | exact rfl)) ?_
      simp only [List.set_cons_succ, List.set_cons_zero]
      refine lin_val (i := 9) rfl rfl (by rfl) (by intro x hx; go_simp; (first | done | exact rfl)) ?_
      simp only [List.set_cons_succ, List.set_cons_zero]
      refine lin_val (i := 10) rfl rfl (by rfl) (by intro x hx; go_simp; (first | done | exact rfl)) ?_
      simp only [List.set_cons_succ, List.set_cons_zero]
      refine lin_val (i := 11) rfl rfl (by rfl) (by intro x hx; have f := (HA.out.up hx).cells; obtain ⟨f0, f1⟩ := f; go_simp; (first | done | exact rfl)) ?_
      simp only [List.set_cons_succ, List.set_cons_zero]
      refine lin_val (i := 12) rfl rfl (by rfl) (by intro x hx; have f := (HC.out.up hx).cells; obtain ⟨f0, f1⟩ := f; go_simp; (first | done | exact rfl)) ?_
      simp only [List.set_cons_succ, List.set_cons_zero]
      refine lin_call (i := 13) (f := 6) (args := #[(a).val, (c).val]) (ups_below (Nat.le_refl _)) rfl rfl (by rfl) (fun x hx => by kernel_rfl) (by intro x hx; exact within_is (a := a) (b := c) (h)) ?_
      simp only [List.set_cons_succ, List.set_cons_zero]
      refine lin_val (i := 14) rfl rfl (by rfl) (by intro x hx; go_simp; (first | done | exact rfl)) ?_
      simp only [List.set_cons_succ, List.set_cons_zero]
      refine lin_no (i := 15) rfl rfl (by kernel_rfl) ?_
      simp only [List.set_cons_succ, List.set_cons_zero]
      refine lin_no (i := 16) rfl rfl (by kernel_rfl) ?_
      simp only [List.set_cons_succ, List.set_cons_zero]
      refine lin_no (i := 17) rfl rfl (by kernel_rfl) ?_
      simp only [List.set_cons_succ, List.set_cons_zero]
      refine lin_val (i := 18) rfl rfl (by rfl) (by intro x hx; go_simp; (first | done | exact rfl)) ?_
      simp only [List.set_cons_succ, List.set_cons_zero]
      refine lin_val (i := 19) rfl rfl (by rfl) (by intro x hx; go_simp; (first | done | exact rfl)) ?_
      simp only [List.set_cons_succ, List.set_cons_zero]
      refine lin_no (i := 20) rfl rfl (by kernel_rfl) ?_
      simp only [List.set_cons_succ, List.set_cons_zero]
      refine lin_no (i := 21) rfl rfl (by kernel_rfl) ?_
      simp only [List.set_cons_succ, List.set_cons_zero]
      refine lin_no (i := 22) rfl rfl (by kernel_rfl) ?_
      simp only [List.set_cons_succ, List.set_cons_zero]
      refine lin_no (i := 23) rfl rfl (by kernel_rfl) ?_
      simp only [List.set_cons_succ, List.set_cons_zero]
      refine lin_val (i := 24) rfl rfl (by rfl) (by intro x hx; go_simp; (first | done | exact rfl)) ?_
      simp only [List.set_cons_succ, List.set_cons_zero]
      refine lin_val (i := 25) rfl rfl (by rfl) (by intro x hx; go_simp; (first | done | exact rfl)) ?_
      simp only [List.set_cons_succ, List.set_cons_zero]
      refine lin_done ?_
      intro x hx
      go_wp2_with fail
      go_meet
      exact ⟨rfl, hx⟩
    · refine lin_begin (Below W1.heap.size W1) rfl (Below.refl _ _) ?_
      refine lin_val (i := 0) rfl rfl (by rfl) (by intro x hx; have f := (HA.out.up hx).cells; obtain ⟨f0, f1⟩ := f; go_simp; (first | done | exact rfl)) ?_
      simp only [List.set_cons_succ, List.set_cons_zero]
      refine lin_val (i := 1) rfl rfl (by rfl) (by intro x hx; have f := (HJ.out.up hx).cells; obtain ⟨f0, f1⟩ := f; go_simp; (first | done | exact rfl)) ?_
      simp only [List.set_cons_succ, List.set_cons_zero]
      refine lin_call (i := 2) (f := 6) (args := #[(a).val, (joinR a b).val]) (ups_below (Nat.le_refl _)) rfl rfl (by rfl) (fun x hx => by kernel_rfl) (by intro x hx; exact within_is (a := a) (b := joinR a b) (join_left a b)) ?_
      simp only [List.set_cons_succ, List.set_cons_zero]
      refine lin_val (i := 3) rfl rfl (by rfl) (by intro x hx; go_simp; (first | done | exact rfl)) ?_
      simp only [List.set_cons_succ, List.set_cons_zero]
      refine lin_val (i := 4) rfl rfl (by rfl) (by intro x hx; go_simp; (first | done | exact rfl)) ?_
      simp only [List.set_cons_succ, List.set_cons_zero]
      refine lin_val (i := 5) rfl rfl (by rfl) (by intro x hx; have f := (HBb.out.up hx).cells; obtain ⟨f0, f1⟩ := f; go_simp; (first | done | exact rfl)) ?_
      simp only [List.set_cons_succ, List.set_cons_zero]
      refine lin_val (i := 6) rfl rfl (by rfl) (by intro x hx; have f := (HJ.out.up hx).cells; obtain ⟨f0, f1⟩ := f; go_simp; (first | done | exact rfl)) ?_
      simp only [List.set_cons_succ, List.set_cons_zero]
      refine lin_call (i := 7) (f := 6) (args := #[(b).val, (joinR a b).val]) (ups_below (Nat.le_refl _)) rfl rfl (by rfl) (fun x hx => by kernel_rfl) (by intro x hx; exact within_is (a := b) (b := joinR a b) (join_right a b)) ?_
      simp only [List.set_cons_succ, List.set_cons_zero]
      refine lin_val (i := 8) rfl rfl (by rfl) (by intro x hx; go_simp; (first | done | exact rfl)) ?_
      simp only [List.set_cons_succ, List.set_cons_zero]
      refine lin_val (i := 9) rfl rfl (by rfl) (by intro x hx; go_simp; (first | done | exact rfl)) ?_
      simp only [List.set_cons_succ, List.set_cons_zero]
      refine lin_val (i := 10) rfl rfl (by rfl) (by intro x hx; go_simp; (first | done | exact rfl)) ?_
      simp only [List.set_cons_succ, List.set_cons_zero]
      refine lin_val (i := 11) rfl rfl (by rfl) (by intro x hx; have f := (HA.out.up hx).cells; obtain ⟨f0, f1⟩ := f; go_simp; (first | done | exact rfl)) ?_
      simp only [List.set_cons_succ, List.set_cons_zero]
      refine lin_val (i := 12) rfl rfl (by rfl) (by intro x hx; have f := (HC.out.up hx).cells; obtain ⟨f0, f1⟩ := f; go_simp; (first | done | exact rfl)) ?_
      simp only [List.set_cons_succ, List.set_cons_zero]
      refine lin_call (i := 13) (f := 6) (args := #[(a).val, (c).val]) (ups_below (Nat.le_refl _)) rfl rfl (by rfl) (fun x hx => by kernel_rfl) (by intro x hx; exact within_is (a := a) (b := c) (h)) ?_
      simp only [List.set_cons_succ, List.set_cons_zero]
      refine lin_val (i := 14) rfl rfl (by rfl) (by intro x hx; go_simp; (first | done | exact rfl)) ?_
      simp only [List.set_cons_succ, List.set_cons_zero]
      refine lin_val (i := 15) rfl rfl (by rfl) (by intro x hx; have f := (HBb.out.up hx).cells; obtain ⟨f0, f1⟩ := f; go_simp; (first | done | exact rfl)) ?_
      simp only [List.set_cons_succ, List.set_cons_zero]
      refine lin_val (i := 16) rfl rfl (by rfl) (by intro x hx; have f := (HC.out.up hx).cells; obtain ⟨f0, f1⟩ := f; go_simp; (first | done | exact rfl)) ?_
      simp only [List.set_cons_succ, List.set_cons_zero]
      refine lin_call (i := 17) (f := 6) (args := #[(b).val, (c).val]) (ups_below (Nat.le_refl _)) rfl rfl (by rfl) (fun x hx => by kernel_rfl) (by intro x hx; exact within_is (a := b) (b := c) (k)) ?_
      simp only [List.set_cons_succ, List.set_cons_zero]
      refine lin_val (i := 18) rfl rfl (by rfl) (by intro x hx; go_simp; (first | done | exact rfl)) ?_
      simp only [List.set_cons_succ, List.set_cons_zero]
      refine lin_val (i := 19) rfl rfl (by rfl) (by intro x hx; go_simp; (first | done | exact rfl)) ?_
      simp only [List.set_cons_succ, List.set_cons_zero]
      refine lin_no (i := 20) rfl rfl (by kernel_rfl) ?_
      simp only [List.set_cons_succ, List.set_cons_zero]
      refine lin_no (i := 21) rfl rfl (by kernel_rfl) ?_
      simp only [List.set_cons_succ, List.set_cons_zero]
      refine lin_no (i := 22) rfl rfl (by kernel_rfl) ?_
      simp only [List.set_cons_succ, List.set_cons_zero]
      refine lin_no (i := 23) rfl rfl (by kernel_rfl) ?_
      simp only [List.set_cons_succ, List.set_cons_zero]
      refine lin_val (i := 24) rfl rfl (by rfl) (by intro x hx; go_simp; (first | done | exact rfl)) ?_
      simp only [List.set_cons_succ, List.set_cons_zero]
      refine lin_val (i := 25) rfl rfl (by rfl) (by intro x hx; go_simp; (first | done | exact rfl)) ?_
      simp only [List.set_cons_succ, List.set_cons_zero]
      refine lin_done ?_
      intro x hx
      go_wp2_with fail
      go_meet
      exact ⟨rfl, hx⟩
    · refine lin_begin (Below W1.heap.size W1) rfl (Below.refl _ _) ?_
      refine lin_val (i := 0) rfl rfl (by rfl) (by intro x hx; have f := (HA.out.up hx).cells; obtain ⟨f0, f1⟩ := f; go_simp; (first | done | exact rfl)) ?_
      simp only [List.set_cons_succ, List.set_cons_zero]
      refine lin_val (i := 1) rfl rfl (by rfl) (by intro x hx; have f := (HJ.out.up hx).cells; obtain ⟨f0, f1⟩ := f; go_simp; (first | done | exact rfl)) ?_
      simp only [List.set_cons_succ, List.set_cons_zero]
      refine lin_call (i := 2) (f := 6) (args := #[(a).val, (joinR a b).val]) (ups_below (Nat.le_refl _)) rfl rfl (by rfl) (fun x hx => by kernel_rfl) (by intro x hx; exact within_is (a := a) (b := joinR a b) (join_left a b)) ?_
      simp only [List.set_cons_succ, List.set_cons_zero]
      refine lin_val (i := 3) rfl rfl (by rfl) (by intro x hx; go_simp; (first | done | exact rfl)) ?_
      simp only [List.set_cons_succ, List.set_cons_zero]
      refine lin_val (i := 4) rfl rfl (by rfl) (by intro x hx; go_simp; (first | done | exact rfl)) ?_
      simp only [List.set_cons_succ, List.set_cons_zero]
      refine lin_val (i := 5) rfl rfl (by rfl) (by intro x hx; have f := (HBb.out.up hx).cells; obtain ⟨f0, f1⟩ := f; go_simp; (first | done | exact rfl)) ?_
      simp only [List.set_cons_succ, List.set_cons_zero]
      refine lin_val (i := 6) rfl rfl (by rfl) (by intro x hx; have f := (HJ.out.up hx).cells; obtain ⟨f0, f1⟩ := f; go_simp; (first | done | exact rfl)) ?_
      simp only [List.set_cons_succ, List.set_cons_zero]
      refine lin_call (i := 7) (f := 6) (args := #[(b).val, (joinR a b).val]) (ups_below (Nat.le_refl _)) rfl rfl (by rfl) (fun x hx => by kernel_rfl) (by intro x hx; exact within_is (a := b) (b := joinR a b) (join_right a b)) ?_
      simp only [List.set_cons_succ, List.set_cons_zero]
      refine lin_val (i := 8) rfl rfl (by rfl) (by intro x hx; go_simp; (first | done | exact rfl)) ?_
      simp only [List.set_cons_succ, List.set_cons_zero]
      refine lin_val (i := 9) rfl rfl (by rfl) (by intro x hx; go_simp; (first | done | exact rfl)) ?_
      simp only [List.set_cons_succ, List.set_cons_zero]
      refine lin_val (i := 10) rfl rfl (by rfl) (by intro x hx; go_simp; (first | done | exact rfl)) ?_
      simp only [List.set_cons_succ, List.set_cons_zero]
      refine lin_val (i := 11) rfl rfl (by rfl) (by intro x hx; have f := (HA.out.up hx).cells; obtain ⟨f0, f1⟩ := f; go_simp; (first | done | exact rfl)) ?_
      simp only [List.set_cons_succ, List.set_cons_zero]
      refine lin_val (i := 12) rfl rfl (by rfl) (by intro x hx; have f := (HC.out.up hx).cells; obtain ⟨f0, f1⟩ := f; go_simp; (first | done | exact rfl)) ?_
      simp only [List.set_cons_succ, List.set_cons_zero]
      refine lin_call (i := 13) (f := 6) (args := #[(a).val, (c).val]) (ups_below (Nat.le_refl _)) rfl rfl (by rfl) (fun x hx => by kernel_rfl) (by intro x hx; exact within_is (a := a) (b := c) (h)) ?_
      simp only [List.set_cons_succ, List.set_cons_zero]
      refine lin_val (i := 14) rfl rfl (by rfl) (by intro x hx; go_simp; (first | done | exact rfl)) ?_
      simp only [List.set_cons_succ, List.set_cons_zero]
      refine lin_val (i := 15) rfl rfl (by rfl) (by intro x hx; have f := (HBb.out.up hx).cells; obtain ⟨f0, f1⟩ := f; go_simp; (first | done | exact rfl)) ?_
      simp only [List.set_cons_succ, List.set_cons_zero]
      refine lin_val (i := 16) rfl rfl (by rfl) (by intro x hx; have f := (HC.out.up hx).cells; obtain ⟨f0, f1⟩ := f; go_simp; (first | done | exact rfl)) ?_
      simp only [List.set_cons_succ, List.set_cons_zero]
      refine lin_call (i := 17) (f := 6) (args := #[(b).val, (c).val]) (ups_below (Nat.le_refl _)) rfl rfl (by rfl) (fun x hx => by kernel_rfl) (by intro x hx; exact within_is (a := b) (b := c) (k)) ?_
      simp only [List.set_cons_succ, List.set_cons_zero]
      refine lin_val (i := 18) rfl rfl (by rfl) (by intro x hx; go_simp; (first | done | exact rfl)) ?_
      simp only [List.set_cons_succ, List.set_cons_zero]
      refine lin_val (i := 19) rfl rfl (by rfl) (by intro x hx; go_simp; (first | done | exact rfl)) ?_
      simp only [List.set_cons_succ, List.set_cons_zero]
      refine lin_val (i := 20) rfl rfl (by rfl) (by intro x hx; have f := (HJ.out.up hx).cells; obtain ⟨f0, f1⟩ := f; go_simp; (first | done | exact rfl)) ?_
      simp only [List.set_cons_succ, List.set_cons_zero]
      refine lin_val (i := 21) rfl rfl (by rfl) (by intro x hx; have f := (HC.out.up hx).cells; obtain ⟨f0, f1⟩ := f; go_simp; (first | done | exact rfl)) ?_
      simp only [List.set_cons_succ, List.set_cons_zero]
      refine lin_call (i := 22) (f := 6) (args := #[(joinR a b).val, (c).val]) (ups_below (Nat.le_refl _)) rfl rfl (by rfl) (fun x hx => by kernel_rfl) (by intro x hx; exact within_is (a := joinR a b) (b := c) (join_least a b c h k)) ?_
      simp only [List.set_cons_succ, List.set_cons_zero]
      refine lin_val (i := 23) rfl rfl (by rfl) (by intro x hx; go_simp; (first | done | exact rfl)) ?_
      simp only [List.set_cons_succ, List.set_cons_zero]
      refine lin_val (i := 24) rfl rfl (by rfl) (by intro x hx; go_simp; (first | done | exact rfl)) ?_
      simp only [List.set_cons_succ, List.set_cons_zero]
      refine lin_val (i := 25) rfl rfl (by rfl) (by intro x hx; go_simp; (first | done | exact rfl)) ?_
      simp only [List.set_cons_succ, List.set_cons_zero]
      refine lin_done ?_
      intro x hx
      go_wp2_with fail
      go_meet
      exact ⟨rfl, hx⟩
  case rest =>
    obtain ⟨rfl, hx⟩ := hcut
    obtain ⟨W2, hW2⟩ : ∃ U, U = wc := ⟨_, rfl⟩
    subst hW2
    replace HA := hid (HA.out.up hx)
    replace HBb := hid (HBb.out.up hx)
    replace HC := hid (HC.out.up hx)
    replace HJ := hid (HJ.out.up hx)
    replace HB := hid (HB.out.trans (hx.mono HB.out.size))
    clear hx
    go_upto_region 4 with fail
    -- region 4
    refine lin_begin (Below W2.heap.size W2) rfl (Below.refl _ _) ?_
    refine lin_val (i := 0) rfl rfl (by rfl) (by intro x hx; have f := (HA.out.up hx).cells; obtain ⟨f0, f1⟩ := f; go_simp; (first | done | exact rfl)) ?_
    simp only [List.set_cons_succ, List.set_cons_zero]
    refine lin_val (i := 1) rfl rfl (by rfl) (by intro x hx; have f := (HBb.out.up hx).cells; obtain ⟨f0, f1⟩ := f; go_simp; (first | done | exact rfl)) ?_
    simp only [List.set_cons_succ, List.set_cons_zero]
    refine lin_call (i := 2) (f := 7) (args := #[a.val, b.val]) (ups_below (Nat.le_refl _)) rfl rfl (by rfl) (fun x hx => by kernel_rfl) (by intro x hx; exact meet_any a b _) ?_
    simp only [List.set_cons_succ, List.set_cons_zero]
    refine lin_val (i := 3) rfl rfl (by rfl) (by intro x hx; go_simp; (first | done | exact rfl)) ?_
    simp only [List.set_cons_succ, List.set_cons_zero]
    refine lin_val (i := 4) rfl rfl (by rfl) (by intro x hx; go_simp; (first | done | exact rfl)) ?_
    simp only [List.set_cons_succ, List.set_cons_zero]
    refine lin_val (i := 5) rfl rfl (by rfl) (by intro x hx; go_simp; (first | done | exact rfl)) ?_
    simp only [List.set_cons_succ, List.set_cons_zero]
    refine lin_make_as (i := 6) (ups_below (Nat.le_refl _)) rfl rfl (by rfl) (.cells #[.int .u64 0, .int .u64 0] 24 (0, 0)) (fun k => .pointer (some ⟨k, 0, none⟩)) (RoomAt W2.heap.size) (fun x hx => roomAt_new hx _ _) (by intro x hx; go_simp; (first | done | exact rfl)) (fun k3 => ?_)
    simp only [List.set_cons_succ, List.set_cons_zero]
    refine lin_store (i := 7) (fun x => Below W2.heap.size W2 x ∧ Has W2.heap.size k3 (meetR a b) x) rfl rfl (by rfl) (Put2 k3 _ _) (by intro x hx; obtain ⟨hx, rm⟩ := hx; obtain ⟨z0, z1, z2, z3, z4, z5⟩ := rm.2.facts; (try unfold T.val); go_simp; (first | done | rfl)) (by intro x hx; exact room_put (meetR a b) x hx) ?_
    refine lin_val (i := 8) rfl rfl (by rfl) (by intro x hx; go_simp; (first | done | exact rfl)) ?_
    simp only [List.set_cons_succ, List.set_cons_zero]
    refine lin_done ?_
    intro W3 hx
    obtain ⟨hx, hh⟩ := hx
    replace HA := hid (HA.out.up hx)
    replace HBb := hid (HBb.out.up hx)
    replace HC := hid (HC.out.up hx)
    replace HJ := hid (HJ.out.up hx)
    replace HB := hid (HB.out.trans (hx.mono HB.out.size))
    have HM := hid hh.2
    clear hh
    clear hx
    go_upto_region 5 with fail
    -- region 5
    refine lin_begin (Below W3.heap.size W3) rfl (Below.refl _ _) ?_
    refine lin_val (i := 0) rfl rfl (by rfl) (by intro x hx; have f := (HA.out.up hx).cells; obtain ⟨f0, f1⟩ := f; go_simp; (first | done | exact rfl)) ?_
    simp only [List.set_cons_succ, List.set_cons_zero]
    refine lin_val (i := 1) rfl rfl (by rfl) (by intro x hx; go_simp; (first | done | exact rfl)) ?_
    simp only [List.set_cons_succ, List.set_cons_zero]
    refine lin_call (i := 2) (f := 8) (args := #[a.val, .int .u64 (tn v)]) (ups_below (Nat.le_refl _)) rfl rfl (by rfl) (fun x hx => by kernel_rfl) (by intro x hx; exact some_any a v _) ?_
    simp only [List.set_cons_succ, List.set_cons_zero]
    refine lin_val (i := 3) rfl rfl (by rfl) (by intro x hx; go_simp; (first | done | exact rfl)) ?_
    simp only [List.set_cons_succ, List.set_cons_zero]
    refine lin_done ?_
    intro W4 hx
    replace HA := hid (HA.out.up hx)
    replace HBb := hid (HBb.out.up hx)
    replace HC := hid (HC.out.up hx)
    replace HJ := hid (HJ.out.up hx)
    replace HM := hid (HM.out.up hx)
    replace HB := hid (HB.out.trans (hx.mono HB.out.size))
    clear hx
    go_upto_region 6 with fail
    -- region 6
    go_cut [78] (fun p wx => p = .bool false ∧ Below W4.heap.size W4 wx)
    case first =>
      rcases ways_meet a b v with ⟨h, k⟩ | ⟨h, k⟩ | ⟨h, k⟩
      · refine lin_begin (Below W4.heap.size W4) rfl (Below.refl _ _) ?_
        refine lin_val (i := 0) rfl rfl (by rfl) (by intro x hx; have f := (HBb.out.up hx).cells; obtain ⟨f0, f1⟩ := f; go_simp; (first | done | exact rfl)) ?_
        simp only [List.set_cons_succ, List.set_cons_zero]
        refine lin_val (i := 1) rfl rfl (by rfl) (by intro x hx; go_simp; (first | done | exact rfl)) ?_
        simp only [List.set_cons_succ, List.set_cons_zero]
        refine lin_call (i := 2) (f := 9) (args := #[(b).val, .int .u64 (tn (a.lo ||| (v &&& a.m)))]) (ups_below (Nat.le_refl _)) rfl rfl (by rfl) (fun x hx => by kernel_rfl) (by intro x hx; exact in_is (a := b) (v := a.lo ||| (v &&& a.m)) (h)) ?_
        simp only [List.set_cons_succ, List.set_cons_zero]
        refine lin_val (i := 3) rfl rfl (by rfl) (by intro x hx; go_simp; (first | done | exact rfl)) ?_
        simp only [List.set_cons_succ, List.set_cons_zero]
        refine lin_val (i := 4) (v := .bool true) rfl rfl (by rfl) (by intro x hx; go_simp; (try rw [k]); (try rfl); (first | done | exact rfl)) ?_
        simp only [List.set_cons_succ, List.set_cons_zero]
        refine lin_val (i := 5) rfl rfl (by rfl) (by intro x hx; go_simp; (first | done | exact rfl)) ?_
        simp only [List.set_cons_succ, List.set_cons_zero]
        refine lin_val (i := 6) rfl rfl (by rfl) (by intro x hx; go_simp; (first | done | exact rfl)) ?_
        simp only [List.set_cons_succ, List.set_cons_zero]
        refine lin_val (i := 7) rfl rfl (by rfl) (by intro x hx; have f := (HM.out.up hx).cells; obtain ⟨f0, f1⟩ := f; go_simp; (first | done | exact rfl)) ?_
        simp only [List.set_cons_succ, List.set_cons_zero]
        refine lin_val (i := 8) rfl rfl (by rfl) (by intro x hx; go_simp; (first | done | exact rfl)) ?_
        simp only [List.set_cons_succ, List.set_cons_zero]
        refine lin_call (i := 9) (f := 9) (args := #[(meetR a b).val, .int .u64 (tn (a.lo ||| (v &&& a.m)))]) (ups_below (Nat.le_refl _)) rfl rfl (by rfl) (fun x hx => by kernel_rfl) (by intro x hx; exact in_is (a := meetR a b) (v := a.lo ||| (v &&& a.m)) (meet_has a b v h)) ?_
        simp only [List.set_cons_succ, List.set_cons_zero]
        refine lin_val (i := 10) rfl rfl (by rfl) (by intro x hx; go_simp; (first | done | exact rfl)) ?_
        simp only [List.set_cons_succ, List.set_cons_zero]
        refine lin_val (i := 11) rfl rfl (by rfl) (by intro x hx; go_simp; (first | done | exact rfl)) ?_
        simp only [List.set_cons_succ, List.set_cons_zero]
        refine lin_val (i := 12) rfl rfl (by rfl) (by intro x hx; go_simp; (first | done | exact rfl)) ?_
        simp only [List.set_cons_succ, List.set_cons_zero]
        refine lin_val (i := 13) rfl rfl (by rfl) (by intro x hx; go_simp; (first | done | exact rfl)) ?_
        simp only [List.set_cons_succ, List.set_cons_zero]
        refine lin_val (i := 14) (v := .bool true) rfl rfl (by rfl) (by intro x hx; go_simp; (try rw [k]); (try rfl); (first | done | exact rfl)) ?_
        simp only [List.set_cons_succ, List.set_cons_zero]
        refine lin_val (i := 15) rfl rfl (by rfl) (by intro x hx; go_simp; (first | done | exact rfl)) ?_
        simp only [List.set_cons_succ, List.set_cons_zero]
        refine lin_val (i := 16) rfl rfl (by rfl) (by intro x hx; have f := (HM.out.up hx).cells; obtain ⟨f0, f1⟩ := f; go_simp; (first | done | exact rfl)) ?_
        simp only [List.set_cons_succ, List.set_cons_zero]
        refine lin_val (i := 17) rfl rfl (by rfl) (by intro x hx; have f := (HA.out.up hx).cells; obtain ⟨f0, f1⟩ := f; go_simp; (first | done | exact rfl)) ?_
        simp only [List.set_cons_succ, List.set_cons_zero]
        refine lin_call (i := 18) (f := 6) (args := #[(meetR a b).val, (a).val]) (ups_below (Nat.le_refl _)) rfl rfl (by rfl) (fun x hx => by kernel_rfl) (by intro x hx; exact within_is (a := meetR a b) (b := a) (meet_left a b k)) ?_
        simp only [List.set_cons_succ, List.set_cons_zero]
        refine lin_val (i := 19) rfl rfl (by rfl) (by intro x hx; go_simp; (first | done | exact rfl)) ?_
        simp only [List.set_cons_succ, List.set_cons_zero]
        refine lin_val (i := 20) rfl rfl (by rfl) (by intro x hx; go_simp; (first | done | exact rfl)) ?_
        simp only [List.set_cons_succ, List.set_cons_zero]
        refine lin_val (i := 21) rfl rfl (by rfl) (by intro x hx; have f := (HM.out.up hx).cells; obtain ⟨f0, f1⟩ := f; go_simp; (first | done | exact rfl)) ?_
        simp only [List.set_cons_succ, List.set_cons_zero]
        refine lin_val (i := 22) rfl rfl (by rfl) (by intro x hx; have f := (HBb.out.up hx).cells; obtain ⟨f0, f1⟩ := f; go_simp; (first | done | exact rfl)) ?_
        simp only [List.set_cons_succ, List.set_cons_zero]
        refine lin_call (i := 23) (f := 6) (args := #[(meetR a b).val, (b).val]) (ups_below (Nat.le_refl _)) rfl rfl (by rfl) (fun x hx => by kernel_rfl) (by intro x hx; exact within_is (a := meetR a b) (b := b) (meet_right a b k)) ?_
        simp only [List.set_cons_succ, List.set_cons_zero]
        refine lin_val (i := 24) rfl rfl (by rfl) (by intro x hx; go_simp; (first | done | exact rfl)) ?_
        simp only [List.set_cons_succ, List.set_cons_zero]
        refine lin_val (i := 25) rfl rfl (by rfl) (by intro x hx; go_simp; (first | done | exact rfl)) ?_
        simp only [List.set_cons_succ, List.set_cons_zero]
        refine lin_val (i := 26) rfl rfl (by rfl) (by intro x hx; go_simp; (first | done | exact rfl)) ?_
        simp only [List.set_cons_succ, List.set_cons_zero]
        refine lin_val (i := 27) rfl rfl (by rfl) (by intro x hx; go_simp; (first | done | exact rfl)) ?_
        simp only [List.set_cons_succ, List.set_cons_zero]
        refine lin_done ?_
        intro x hx
        go_wp2_with fail
        go_meet
        exact ⟨rfl, hx⟩
      · refine lin_begin (Below W4.heap.size W4) rfl (Below.refl _ _) ?_
        refine lin_val (i := 0) rfl rfl (by rfl) (by intro x hx; have f := (HBb.out.up hx).cells; obtain ⟨f0, f1⟩ := f; go_simp; (first | done | exact rfl)) ?_
        simp only [List.set_cons_succ, List.set_cons_zero]
        refine lin_val (i := 1) rfl rfl (by rfl) (by intro x hx; go_simp; (first | done | exact rfl)) ?_
        simp only [List.set_cons_succ, List.set_cons_zero]
        refine lin_call (i := 2) (f := 9) (args := #[(b).val, .int .u64 (tn (a.lo ||| (v &&& a.m)))]) (ups_below (Nat.le_refl _)) rfl rfl (by rfl) (fun x hx => by kernel_rfl) (by intro x hx; exact in_is (a := b) (v := a.lo ||| (v &&& a.m)) (h)) ?_
        simp only [List.set_cons_succ, List.set_cons_zero]
        refine lin_val (i := 3) rfl rfl (by rfl) (by intro x hx; go_simp; (first | done | exact rfl)) ?_
        simp only [List.set_cons_succ, List.set_cons_zero]
        refine lin_no (i := 4) rfl rfl (by kernel_rfl) ?_
        simp only [List.set_cons_succ, List.set_cons_zero]
        refine lin_no (i := 5) rfl rfl (by kernel_rfl) ?_
        simp only [List.set_cons_succ, List.set_cons_zero]
        refine lin_no (i := 6) rfl rfl (by kernel_rfl) ?_
        simp only [List.set_cons_succ, List.set_cons_zero]
        refine lin_no (i := 7) rfl rfl (by kernel_rfl) ?_
        simp only [List.set_cons_succ, List.set_cons_zero]
        refine lin_no (i := 8) rfl rfl (by kernel_rfl) ?_
        simp only [List.set_cons_succ, List.set_cons_zero]
        refine lin_no (i := 9) rfl rfl (by kernel_rfl) ?_
        simp only [List.set_cons_succ, List.set_cons_zero]
        refine lin_no (i := 10) rfl rfl (by kernel_rfl) ?_
        simp only [List.set_cons_succ, List.set_cons_zero]
        refine lin_no (i := 11) rfl rfl (by kernel_rfl) ?_
        simp only [List.set_cons_succ, List.set_cons_zero]
        refine lin_val (i := 12) rfl rfl (by rfl) (by intro x hx; go_simp; (first | done | exact rfl)) ?_
        simp only [List.set_cons_succ, List.set_cons_zero]
        refine lin_val (i := 13) rfl rfl (by rfl) (by intro x hx; go_simp; (first | done | exact rfl)) ?_
        simp only [List.set_cons_succ, List.set_cons_zero]
        refine lin_val (i := 14) (v := .bool true) rfl rfl (by rfl) (by intro x hx; go_simp; (try rw [k]); (try rfl); (first | done | exact rfl)) ?_
        simp only [List.set_cons_succ, List.set_cons_zero]
        refine lin_val (i := 15) rfl rfl (by rfl) (by intro x hx; go_simp; (first | done | exact rfl)) ?_
        simp only [List.set_cons_succ, List.set_cons_zero]
        refine lin_val (i := 16) rfl rfl (by rfl) (by intro x hx; have f := (HM.out.up hx).cells; obtain ⟨f0, f1⟩ := f; go_simp; (first | done | exact rfl)) ?_
        simp only [List.set_cons_succ, List.set_cons_zero]
        refine lin_val (i := 17) rfl rfl (by rfl) (by intro x hx; have f := (HA.out.up hx).cells; obtain ⟨f0, f1⟩ := f; go_simp; (first | done | exact rfl)) ?_
        simp only [List.set_cons_succ, List.set_cons_zero]
        refine lin_call (i := 18) (f := 6) (args := #[(meetR a b).val, (a).val]) (ups_below (Nat.le_refl _)) rfl rfl (by rfl) (fun x hx => by kernel_rfl) (by intro x hx; exact within_is (a := meetR a b) (b := a) (meet_left a b k)) ?_
        simp only [List.set_cons_succ, List.set_cons_zero]
        refine lin_val (i := 19) rfl rfl (by rfl) (by intro x hx; go_simp; (first | done | exact rfl)) ?_
        simp only [List.set_cons_succ, List.set_cons_zero]
        refine lin_val (i := 20) rfl rfl (by rfl) (by intro x hx; go_simp; (first | done | exact rfl)) ?_
        simp only [List.set_cons_succ, List.set_cons_zero]
        refine lin_val (i := 21) rfl rfl (by rfl) (by intro x hx; have f := (HM.out.up hx).cells; obtain ⟨f0, f1⟩ := f; go_simp; (first | done | exact rfl)) ?_
        simp only [List.set_cons_succ, List.set_cons_zero]
        refine lin_val (i := 22) rfl rfl (by rfl) (by intro x hx; have f := (HBb.out.up hx).cells; obtain ⟨f0, f1⟩ := f; go_simp; (first | done | exact rfl)) ?_
        simp only [List.set_cons_succ, List.set_cons_zero]
        refine lin_call (i := 23) (f := 6) (args := #[(meetR a b).val, (b).val]) (ups_below (Nat.le_refl _)) rfl rfl (by rfl) (fun x hx => by kernel_rfl) (by intro x hx; exact within_is (a := meetR a b) (b := b) (meet_right a b k)) ?_
        simp only [List.set_cons_succ, List.set_cons_zero]
        refine lin_val (i := 24) rfl rfl (by rfl) (by intro x hx; go_simp; (first | done | exact rfl)) ?_
        simp only [List.set_cons_succ, List.set_cons_zero]
        refine lin_val (i := 25) rfl rfl (by rfl) (by intro x hx; go_simp; (first | done | exact rfl)) ?_
        simp only [List.set_cons_succ, List.set_cons_zero]
        refine lin_val (i := 26) rfl rfl (by rfl) (by intro x hx; go_simp; (first | done | exact rfl)) ?_
        simp only [List.set_cons_succ, List.set_cons_zero]
        refine lin_val (i := 27) rfl rfl (by rfl) (by intro x hx; go_simp; (first | done | exact rfl)) ?_
        simp only [List.set_cons_succ, List.set_cons_zero]
        refine lin_done ?_
        intro x hx
        go_wp2_with fail
        go_meet
        exact ⟨rfl, hx⟩
      · refine lin_begin (Below W4.heap.size W4) rfl (Below.refl _ _) ?_
        refine lin_val (i := 0) rfl rfl (by rfl) (by intro x hx; have f := (HBb.out.up hx).cells; obtain ⟨f0, f1⟩ := f; go_simp; (first | done | exact rfl)) ?_
        simp only [List.set_cons_succ, List.set_cons_zero]
        refine lin_val (i := 1) rfl rfl (by rfl) (by intro x hx; go_simp; (first | done | exact rfl)) ?_
        simp only [List.set_cons_succ, List.set_cons_zero]
        refine lin_call (i := 2) (f := 9) (args := #[(b).val, .int .u64 (tn (a.lo ||| (v &&& a.m)))]) (ups_below (Nat.le_refl _)) rfl rfl (by rfl) (fun x hx => by kernel_rfl) (by intro x hx; exact in_is (a := b) (v := a.lo ||| (v &&& a.m)) (h)) ?_
        simp only [List.set_cons_succ, List.set_cons_zero]
        refine lin_val (i := 3) rfl rfl (by rfl) (by intro x hx; go_simp; (first | done | exact rfl)) ?_
        simp only [List.set_cons_succ, List.set_cons_zero]
        refine lin_no (i := 4) rfl rfl (by kernel_rfl) ?_
        simp only [List.set_cons_succ, List.set_cons_zero]
        refine lin_no (i := 5) rfl rfl (by kernel_rfl) ?_
        simp only [List.set_cons_succ, List.set_cons_zero]
        refine lin_no (i := 6) rfl rfl (by kernel_rfl) ?_
        simp only [List.set_cons_succ, List.set_cons_zero]
        refine lin_no (i := 7) rfl rfl (by kernel_rfl) ?_
        simp only [List.set_cons_succ, List.set_cons_zero]
        refine lin_no (i := 8) rfl rfl (by kernel_rfl) ?_
        simp only [List.set_cons_succ, List.set_cons_zero]
        refine lin_no (i := 9) rfl rfl (by kernel_rfl) ?_
        simp only [List.set_cons_succ, List.set_cons_zero]
        refine lin_no (i := 10) rfl rfl (by kernel_rfl) ?_
        simp only [List.set_cons_succ, List.set_cons_zero]
        refine lin_no (i := 11) rfl rfl (by kernel_rfl) ?_
        simp only [List.set_cons_succ, List.set_cons_zero]
        refine lin_val (i := 12) rfl rfl (by rfl) (by intro x hx; go_simp; (first | done | exact rfl)) ?_
        simp only [List.set_cons_succ, List.set_cons_zero]
        refine lin_val (i := 13) rfl rfl (by rfl) (by intro x hx; go_simp; (first | done | exact rfl)) ?_
        simp only [List.set_cons_succ, List.set_cons_zero]
        refine lin_val (i := 14) (v := .bool false) rfl rfl (by rfl) (by intro x hx; go_simp; (try rw [k]); (try rfl); (first | done | exact rfl)) ?_
        simp only [List.set_cons_succ, List.set_cons_zero]
        refine lin_val (i := 15) rfl rfl (by rfl) (by intro x hx; go_simp; (first | done | exact rfl)) ?_
        simp only [List.set_cons_succ, List.set_cons_zero]
        refine lin_no (i := 16) rfl rfl (by kernel_rfl) ?_
        simp only [List.set_cons_succ, List.set_cons_zero]
        refine lin_no (i := 17) rfl rfl (by kernel_rfl) ?_
        simp only [List.set_cons_succ, List.set_cons_zero]
        refine lin_no (i := 18) rfl rfl (by kernel_rfl) ?_
        simp only [List.set_cons_succ, List.set_cons_zero]
        refine lin_no (i := 19) rfl rfl (by kernel_rfl) ?_
        simp only [List.set_cons_succ, List.set_cons_zero]
        refine lin_no (i := 20) rfl rfl (by kernel_rfl) ?_
        simp only [List.set_cons_succ, List.set_cons_zero]
        refine lin_no (i := 21) rfl rfl (by kernel_rfl) ?_
        simp only [List.set_cons_succ, List.set_cons_zero]
        refine lin_no (i := 22) rfl rfl (by kernel_rfl) ?_
        simp only [List.set_cons_succ, List.set_cons_zero]
        refine lin_no (i := 23) rfl rfl (by kernel_rfl) ?_
        simp only [List.set_cons_succ, List.set_cons_zero]
        refine lin_no (i := 24) rfl rfl (by kernel_rfl) ?_
        simp only [List.set_cons_succ, List.set_cons_zero]
        refine lin_no (i := 25) rfl rfl (by kernel_rfl) ?_
        simp only [List.set_cons_succ, List.set_cons_zero]
        refine lin_val (i := 26) rfl rfl (by rfl) (by intro x hx; go_simp; (first | done | exact rfl)) ?_
        simp only [List.set_cons_succ, List.set_cons_zero]
        refine lin_val (i := 27) rfl rfl (by rfl) (by intro x hx; go_simp; (first | done | exact rfl)) ?_
        simp only [List.set_cons_succ, List.set_cons_zero]
        refine lin_done ?_
        intro x hx
        go_wp2_with fail
        go_meet
        exact ⟨rfl, hx⟩
    case rest =>
      obtain ⟨rfl, hx⟩ := hcut
      obtain ⟨W5, hW5⟩ : ∃ U, U = wc := ⟨_, rfl⟩
      subst hW5
      replace HA := hid (HA.out.up hx)
      replace HBb := hid (HBb.out.up hx)
      replace HC := hid (HC.out.up hx)
      replace HJ := hid (HJ.out.up hx)
      replace HM := hid (HM.out.up hx)
      replace HB := hid (HB.out.trans (hx.mono HB.out.size))
      clear hx
      go_upto_region 8 with fail
      -- region 8
      go_cut [100] (fun p wx => p = .bool false ∧ Below W5.heap.size W5 wx)
      case first =>
        rcases bool_two (withinB a b) with h | h
        · refine up_begin (Below W5.heap.size W5) 22 rfl (by kernel_rfl) ((Below.refl _ _).drew) ?_
          refine take_val (i := 0) (ups_below (Nat.le_refl _)) rfl rfl (by kernel_rfl) (fun _ _ _ h => h) (by rfl) (by intro x hx; have f := (HA.out.up hx).cells; obtain ⟨f0, f1⟩ := f; go_simp; (first | done | exact rfl)) ?_
          simp only [List.set_cons_succ, List.set_cons_zero]
          refine take_val (i := 1) (ups_below (Nat.le_refl _)) rfl rfl (by kernel_rfl) (fun _ _ _ h => h) (by rfl) (by intro x hx; have f := (HBb.out.up hx).cells; obtain ⟨f0, f1⟩ := f; go_simp; (first | done | exact rfl)) ?_
          simp only [List.set_cons_succ, List.set_cons_zero]
          refine take_call (i := 2) (f := 6) (args := #[(a).val, (b).val]) (ups_below (Nat.le_refl _)) rfl rfl (by kernel_rfl) (fun _ _ _ h => h) (by rfl) (fun x hx => by kernel_rfl) (by intro x hx; exact within_is (a := a) (b := b) (h)) ?_
          simp only [List.set_cons_succ, List.set_cons_zero]
          refine take_val (i := 3) (ups_below (Nat.le_refl _)) rfl rfl (by kernel_rfl) (fun _ _ _ h => h) (by rfl) (by intro x hx; go_simp; (first | done | exact rfl)) ?_
          simp only [List.set_cons_succ, List.set_cons_zero]
          refine take_no (i := 4) (ups_below (Nat.le_refl _)) rfl rfl (by kernel_rfl) (fun _ _ _ h => h) (by kernel_rfl) ?_
          simp only [List.set_cons_succ, List.set_cons_zero]
          refine take_no (i := 5) (ups_below (Nat.le_refl _)) rfl rfl (by kernel_rfl) (fun _ _ _ h => h) (by kernel_rfl) ?_
          simp only [List.set_cons_succ, List.set_cons_zero]
          refine take_no (i := 6) (ups_below (Nat.le_refl _)) rfl rfl (by kernel_rfl) (fun _ _ _ h => h) (by kernel_rfl) ?_
          simp only [List.set_cons_succ, List.set_cons_zero]
          refine take_no (i := 7) (ups_below (Nat.le_refl _)) rfl rfl (by kernel_rfl) (fun _ _ _ h => h) (by kernel_rfl) ?_
          simp only [List.set_cons_succ, List.set_cons_zero]
          refine take_val (i := 8) (ups_below (Nat.le_refl _)) rfl rfl (by kernel_rfl) (fun _ _ _ h => h) (by rfl) (by intro x hx; go_simp; (first | done | exact rfl)) ?_
          simp only [List.set_cons_succ, List.set_cons_zero]
          refine take_val (i := 9) (ups_below (Nat.le_refl _)) rfl rfl (by kernel_rfl) (fun _ _ _ h => h) (by rfl) (by intro x hx; go_simp; (first | done | exact rfl)) ?_
          simp only [List.set_cons_succ, List.set_cons_zero]
          refine take_val (i := 10) (ups_below (Nat.le_refl _)) rfl rfl (by kernel_rfl) (fun _ _ _ h => h) (by rfl) (by intro x hx; have f := (HA.out.up hx).cells; obtain ⟨f0, f1⟩ := f; go_simp; (first | done | exact rfl)) ?_
          simp only [List.set_cons_succ, List.set_cons_zero]
          refine take_val (i := 11) (ups_below (Nat.le_refl _)) rfl rfl (by kernel_rfl) (fun _ _ _ h => h) (by rfl) (by intro x hx; have f := (HBb.out.up hx).cells; obtain ⟨f0, f1⟩ := f; go_simp; (first | done | exact rfl)) ?_
          simp only [List.set_cons_succ, List.set_cons_zero]
          refine take_call (i := 12) (f := 6) (args := #[(a).val, (b).val]) (ups_below (Nat.le_refl _)) rfl rfl (by kernel_rfl) (fun _ _ _ h => h) (by rfl) (fun x hx => by kernel_rfl) (by intro x hx; exact within_is (a := a) (b := b) (h)) ?_
          simp only [List.set_cons_succ, List.set_cons_zero]
          refine take_val (i := 13) (ups_below (Nat.le_refl _)) rfl rfl (by kernel_rfl) (fun _ _ _ h => h) (by rfl) (by intro x hx; go_simp; (first | done | exact rfl)) ?_
          simp only [List.set_cons_succ, List.set_cons_zero]
          refine take_no (i := 14) (ups_below (Nat.le_refl _)) rfl rfl (by kernel_rfl) (fun _ _ _ h => h) (by kernel_rfl) ?_
          simp only [List.set_cons_succ, List.set_cons_zero]
          refine take_no (i := 15) (ups_below (Nat.le_refl _)) rfl rfl (by kernel_rfl) (fun _ _ _ h => h) (by kernel_rfl) ?_
          simp only [List.set_cons_succ, List.set_cons_zero]
          refine take_no (i := 16) (ups_below (Nat.le_refl _)) rfl rfl (by kernel_rfl) (fun _ _ _ h => h) (by kernel_rfl) ?_
          simp only [List.set_cons_succ, List.set_cons_zero]
          refine take_no (i := 17) (ups_below (Nat.le_refl _)) rfl rfl (by kernel_rfl) (fun _ _ _ h => h) (by kernel_rfl) ?_
          simp only [List.set_cons_succ, List.set_cons_zero]
          refine take_no (i := 18) (ups_below (Nat.le_refl _)) rfl rfl (by kernel_rfl) (fun _ _ _ h => h) (by kernel_rfl) ?_
          simp only [List.set_cons_succ, List.set_cons_zero]
          refine take_no (i := 19) (ups_below (Nat.le_refl _)) rfl rfl (by kernel_rfl) (fun _ _ _ h => h) (by kernel_rfl) ?_
          simp only [List.set_cons_succ, List.set_cons_zero]
          refine take_val (i := 20) (ups_below (Nat.le_refl _)) rfl rfl (by kernel_rfl) (fun _ _ _ h => h) (by rfl) (by intro x hx; go_simp; (first | done | exact rfl)) ?_
          simp only [List.set_cons_succ, List.set_cons_zero]
          refine take_val (i := 21) (ups_below (Nat.le_refl _)) rfl rfl (by kernel_rfl) (fun _ _ _ h => h) (by rfl) (by intro x hx; go_simp; (first | done | exact rfl)) ?_
          simp only [List.set_cons_succ, List.set_cons_zero]
          refine take_done (by kernel_rfl) ?_ _
          intro x hx
          go_wp2_with fail
          go_meet
          exact ⟨rfl, hx⟩
        · refine up_begin (Below W5.heap.size W5) 22 rfl (by kernel_rfl) ((Below.refl _ _).drew) ?_
          refine take_val (i := 0) (ups_below (Nat.le_refl _)) rfl rfl (by kernel_rfl) (fun _ _ _ h => h) (by rfl) (by intro x hx; have f := (HA.out.up hx).cells; obtain ⟨f0, f1⟩ := f; go_simp; (first | done | exact rfl)) ?_
          simp only [List.set_cons_succ, List.set_cons_zero]
          refine take_val (i := 1) (ups_below (Nat.le_refl _)) rfl rfl (by kernel_rfl) (fun _ _ _ h => h) (by rfl) (by intro x hx; have f := (HBb.out.up hx).cells; obtain ⟨f0, f1⟩ := f; go_simp; (first | done | exact rfl)) ?_
          simp only [List.set_cons_succ, List.set_cons_zero]
          refine take_call (i := 2) (f := 6) (args := #[(a).val, (b).val]) (ups_below (Nat.le_refl _)) rfl rfl (by kernel_rfl) (fun _ _ _ h => h) (by rfl) (fun x hx => by kernel_rfl) (by intro x hx; exact within_is (a := a) (b := b) (h)) ?_
          simp only [List.set_cons_succ, List.set_cons_zero]
          refine take_val (i := 3) (ups_below (Nat.le_refl _)) rfl rfl (by kernel_rfl) (fun _ _ _ h => h) (by rfl) (by intro x hx; go_simp; (first | done | exact rfl)) ?_
          simp only [List.set_cons_succ, List.set_cons_zero]
          refine take_val (i := 4) (ups_below (Nat.le_refl _)) rfl rfl (by kernel_rfl) (fun _ _ _ h => h) (by rfl) (by intro x hx; have f := (HBb.out.up hx).cells; obtain ⟨f0, f1⟩ := f; go_simp; (first | done | exact rfl)) ?_
          simp only [List.set_cons_succ, List.set_cons_zero]
          refine take_val (i := 5) (ups_below (Nat.le_refl _)) rfl rfl (by kernel_rfl) (fun _ _ _ h => h) (by rfl) (by intro x hx; go_simp; (first | done | exact rfl)) ?_
          simp only [List.set_cons_succ, List.set_cons_zero]
          refine take_call (i := 6) (f := 9) (args := #[(b).val, .int .u64 (tn (a.lo ||| (v &&& a.m)))]) (ups_below (Nat.le_refl _)) rfl rfl (by kernel_rfl) (fun _ _ _ h => h) (by rfl) (fun x hx => by kernel_rfl) (by intro x hx; exact in_is (a := b) (v := a.lo ||| (v &&& a.m)) (within_in a b v h)) ?_
          simp only [List.set_cons_succ, List.set_cons_zero]
          refine take_val (i := 7) (ups_below (Nat.le_refl _)) rfl rfl (by kernel_rfl) (fun _ _ _ h => h) (by rfl) (by intro x hx; go_simp; (first | done | exact rfl)) ?_
          simp only [List.set_cons_succ, List.set_cons_zero]
          refine take_val (i := 8) (ups_below (Nat.le_refl _)) rfl rfl (by kernel_rfl) (fun _ _ _ h => h) (by rfl) (by intro x hx; go_simp; (first | done | exact rfl)) ?_
          simp only [List.set_cons_succ, List.set_cons_zero]
          refine take_val (i := 9) (ups_below (Nat.le_refl _)) rfl rfl (by kernel_rfl) (fun _ _ _ h => h) (by rfl) (by intro x hx; go_simp; (first | done | exact rfl)) ?_
          simp only [List.set_cons_succ, List.set_cons_zero]
          refine take_val (i := 10) (ups_below (Nat.le_refl _)) rfl rfl (by kernel_rfl) (fun _ _ _ h => h) (by rfl) (by intro x hx; have f := (HA.out.up hx).cells; obtain ⟨f0, f1⟩ := f; go_simp; (first | done | exact rfl)) ?_
          simp only [List.set_cons_succ, List.set_cons_zero]
          refine take_val (i := 11) (ups_below (Nat.le_refl _)) rfl rfl (by kernel_rfl) (fun _ _ _ h => h) (by rfl) (by intro x hx; have f := (HBb.out.up hx).cells; obtain ⟨f0, f1⟩ := f; go_simp; (first | done | exact rfl)) ?_
          simp only [List.set_cons_succ, List.set_cons_zero]
          refine take_call (i := 12) (f := 6) (args := #[(a).val, (b).val]) (ups_below (Nat.le_refl _)) rfl rfl (by kernel_rfl) (fun _ _ _ h => h) (by rfl) (fun x hx => by kernel_rfl) (by intro x hx; exact within_is (a := a) (b := b) (h)) ?_
          simp only [List.set_cons_succ, List.set_cons_zero]
          refine take_val (i := 13) (ups_below (Nat.le_refl _)) rfl rfl (by kernel_rfl) (fun _ _ _ h => h) (by rfl) (by intro x hx; go_simp; (first | done | exact rfl)) ?_
          simp only [List.set_cons_succ, List.set_cons_zero]
          refine take_val (i := 14) (ups_below (Nat.le_refl _)) rfl rfl (by kernel_rfl) (fun _ _ _ h => h) (by rfl) (by intro x hx; have f := (HA.out.up hx).cells; obtain ⟨f0, f1⟩ := f; go_simp; (first | done | exact rfl)) ?_
          simp only [List.set_cons_succ, List.set_cons_zero]
          refine take_val (i := 15) (ups_below (Nat.le_refl _)) rfl rfl (by kernel_rfl) (fun _ _ _ h => h) (by rfl) (by intro x hx; have f := (HBb.out.up hx).cells; obtain ⟨f0, f1⟩ := f; go_simp; (first | done | exact rfl)) ?_
          simp only [List.set_cons_succ, List.set_cons_zero]
          refine take_call (i := 16) (f := 5) (args := #[a.val, b.val]) (ups_below (Nat.le_refl _)) rfl rfl (by kernel_rfl) (fun _ _ _ h => h) (by rfl) (fun x hx => by kernel_rfl) (by intro x hx; exact join_any a b _) ?_
          simp only [List.set_cons_succ, List.set_cons_zero]
          refine take_val (i := 17) (ups_below (Nat.le_refl _)) rfl rfl (by kernel_rfl) (fun _ _ _ h => h) (by rfl) (by intro x hx; have f := (HBb.out.up hx).cells; obtain ⟨f0, f1⟩ := f; go_simp; (first | done | exact rfl)) ?_
          simp only [List.set_cons_succ, List.set_cons_zero]
          refine take_call (i := 18) (f := 6) (args := #[(joinR a b).val, (b).val]) (ups_below (Nat.le_refl _)) rfl rfl (by kernel_rfl) (fun _ _ _ h => h) (by rfl) (fun x hx => by kernel_rfl) (by intro x hx; exact within_is (a := joinR a b) (b := b) (join_least a b b h (within_self b))) ?_
          simp only [List.set_cons_succ, List.set_cons_zero]
          refine take_val (i := 19) (ups_below (Nat.le_refl _)) rfl rfl (by kernel_rfl) (fun _ _ _ h => h) (by rfl) (by intro x hx; go_simp; (first | done | exact rfl)) ?_
          simp only [List.set_cons_succ, List.set_cons_zero]
          refine take_val (i := 20) (ups_below (Nat.le_refl _)) rfl rfl (by kernel_rfl) (fun _ _ _ h => h) (by rfl) (by intro x hx; go_simp; (first | done | exact rfl)) ?_
          simp only [List.set_cons_succ, List.set_cons_zero]
          refine take_val (i := 21) (ups_below (Nat.le_refl _)) rfl rfl (by kernel_rfl) (fun _ _ _ h => h) (by rfl) (by intro x hx; go_simp; (first | done | exact rfl)) ?_
          simp only [List.set_cons_succ, List.set_cons_zero]
          refine take_done (by kernel_rfl) ?_ _
          intro x hx
          go_wp2_with fail
          go_meet
          exact ⟨rfl, hx⟩
      case rest =>
        obtain ⟨rfl, hx⟩ := hcut
        obtain ⟨W6, hW6⟩ : ∃ U, U = wc := ⟨_, rfl⟩
        subst hW6
        replace HA := hid (HA.out.up hx)
        replace HBb := hid (HBb.out.up hx)
        replace HC := hid (HC.out.up hx)
        replace HJ := hid (HJ.out.up hx)
        replace HM := hid (HM.out.up hx)
        replace HB := hid (HB.out.trans (hx.mono HB.out.size))
        clear hx
        go_upto_region 10 with fail
        -- region 10
        refine up_begin (Below W6.heap.size W6) 19 rfl (by kernel_rfl) ((Below.refl _ _).drew) ?_
        refine take_val (i := 0) (ups_below (Nat.le_refl _)) rfl rfl (by kernel_rfl) (fun _ _ _ h => h) (by rfl) (by intro x hx; have f := (HA.out.up hx).cells; obtain ⟨f0, f1⟩ := f; go_simp; (first | done | exact rfl)) ?_
        simp only [List.set_cons_succ, List.set_cons_zero]
        refine take_call (i := 1) (f := 10) (args := #[]) (ups_below (Nat.le_refl _)) rfl rfl (by kernel_rfl) (fun _ _ _ h => h) (by rfl) (fun x hx => by kernel_rfl) (by intro x hx; exact all_any _) ?_
        simp only [List.set_cons_succ, List.set_cons_zero]
        refine take_call (i := 2) (f := 6) (args := #[(a).val, (T.mk 0#64 (BitVec.allOnes 64)).val]) (ups_below (Nat.le_refl _)) rfl rfl (by kernel_rfl) (fun _ _ _ h => h) (by rfl) (fun x hx => by kernel_rfl) (by intro x hx; exact within_is (a := a) (b := T.mk 0#64 (BitVec.allOnes 64)) (within_all a)) ?_
        simp only [List.set_cons_succ, List.set_cons_zero]
        refine take_val (i := 3) (ups_below (Nat.le_refl _)) rfl rfl (by kernel_rfl) (fun _ _ _ h => h) (by rfl) (by intro x hx; go_simp; (first | done | exact rfl)) ?_
        simp only [List.set_cons_succ, List.set_cons_zero]
        refine take_val (i := 4) (ups_below (Nat.le_refl _)) rfl rfl (by kernel_rfl) (fun _ _ _ h => h) (by rfl) (by intro x hx; go_simp; (first | done | exact rfl)) ?_
        simp only [List.set_cons_succ, List.set_cons_zero]
        refine take_call (i := 5) (f := 11) (args := #[.int .u64 (tn (a.lo ||| (v &&& a.m)))]) (ups_below (Nat.le_refl _)) rfl rfl (by kernel_rfl) (fun _ _ _ h => h) (by rfl) (fun x hx => by kernel_rfl) (by intro x hx; exact of_any (a.lo ||| (v &&& a.m)) _) ?_
        simp only [List.set_cons_succ, List.set_cons_zero]
        refine take_val (i := 6) (ups_below (Nat.le_refl _)) rfl rfl (by kernel_rfl) (fun _ _ _ h => h) (by rfl) (by intro x hx; have f := (HA.out.up hx).cells; obtain ⟨f0, f1⟩ := f; go_simp; (first | done | exact rfl)) ?_
        simp only [List.set_cons_succ, List.set_cons_zero]
        refine take_call (i := 7) (f := 6) (args := #[(ofR (a.lo ||| (v &&& a.m))).val, (a).val]) (ups_below (Nat.le_refl _)) rfl rfl (by kernel_rfl) (fun _ _ _ h => h) (by rfl) (fun x hx => by kernel_rfl) (by intro x hx; exact within_is (a := ofR (a.lo ||| (v &&& a.m))) (b := a) (some_in a v)) ?_
        simp only [List.set_cons_succ, List.set_cons_zero]
        refine take_val (i := 8) (ups_below (Nat.le_refl _)) rfl rfl (by kernel_rfl) (fun _ _ _ h => h) (by rfl) (by intro x hx; go_simp; (first | done | exact rfl)) ?_
        simp only [List.set_cons_succ, List.set_cons_zero]
        refine take_val (i := 9) (ups_below (Nat.le_refl _)) rfl rfl (by kernel_rfl) (fun _ _ _ h => h) (by rfl) (by intro x hx; go_simp; (first | done | exact rfl)) ?_
        simp only [List.set_cons_succ, List.set_cons_zero]
        refine take_val (i := 10) (ups_below (Nat.le_refl _)) rfl rfl (by kernel_rfl) (fun _ _ _ h => h) (by rfl) (by intro x hx; go_simp; (first | done | exact rfl)) ?_
        simp only [List.set_cons_succ, List.set_cons_zero]
        refine take_call (i := 11) (f := 11) (args := #[.int .u64 (tn v)]) (ups_below (Nat.le_refl _)) rfl rfl (by kernel_rfl) (fun _ _ _ h => h) (by rfl) (fun x hx => by kernel_rfl) (by intro x hx; exact of_any v _) ?_
        simp only [List.set_cons_succ, List.set_cons_zero]
        refine take_val (i := 12) (ups_below (Nat.le_refl _)) rfl rfl (by kernel_rfl) (fun _ _ _ h => h) (by rfl) (by intro x hx; go_simp; (first | done | exact rfl)) ?_
        simp only [List.set_cons_succ, List.set_cons_zero]
        refine take_call (i := 13) (f := 9) (args := #[(ofR v).val, .int .u64 (tn (v))]) (ups_below (Nat.le_refl _)) rfl rfl (by kernel_rfl) (fun _ _ _ h => h) (by rfl) (fun x hx => by kernel_rfl) (by intro x hx; exact in_is (a := ofR v) (v := v) (of_in v)) ?_
        simp only [List.set_cons_succ, List.set_cons_zero]
        refine take_val (i := 14) (ups_below (Nat.le_refl _)) rfl rfl (by kernel_rfl) (fun _ _ _ h => h) (by rfl) (by intro x hx; go_simp; (first | done | exact rfl)) ?_
        simp only [List.set_cons_succ, List.set_cons_zero]
        refine take_val (i := 15) (ups_below (Nat.le_refl _)) rfl rfl (by kernel_rfl) (fun _ _ _ h => h) (by rfl) (by intro x hx; go_simp; (first | done | exact rfl)) ?_
        simp only [List.set_cons_succ, List.set_cons_zero]
        refine take_call (i := 16) (f := 12) (args := #[]) (ups_below (Nat.le_refl _)) rfl rfl (by kernel_rfl) (fun _ _ _ h => h) (by rfl) (fun x hx => by kernel_rfl) (by intro x hx; exact works_any _) ?_
        simp only [List.set_cons_succ, List.set_cons_zero]
        refine take_val (i := 17) (ups_below (Nat.le_refl _)) rfl rfl (by kernel_rfl) (fun _ _ _ h => h) (by rfl) (by intro x hx; go_simp; (first | done | exact rfl)) ?_
        simp only [List.set_cons_succ, List.set_cons_zero]
        refine take_val (i := 18) (ups_below (Nat.le_refl _)) rfl rfl (by kernel_rfl) (fun _ _ _ h => h) (by rfl) (by intro x hx; go_simp; (first | done | exact rfl)) ?_
        simp only [List.set_cons_succ, List.set_cons_zero]
        refine take_done (by kernel_rfl) ?_ _
        intro W7 hx
        replace HA := hid (HA.out.up hx)
        replace HBb := hid (HBb.out.up hx)
        replace HC := hid (HC.out.up hx)
        replace HJ := hid (HJ.out.up hx)
        replace HM := hid (HM.out.up hx)
        replace HB := hid (HB.out.trans (hx.mono HB.out.size))
        clear hx
        go_wp2
        go_ret
        exact ⟨rfl, HB.out⟩
end Go.Proofs.Ytlpddekfbkafaaa.Tn
