/-
  The walk of the law TnumBits.
-/
import Derived.Test.YtlpddekfbkafaaaTnF
import Derived.Test.YtlpddekfbkafaaaTnN
namespace Go.Proofs.Ytlpddekfbkafaaa.Tn
open Go.RowKit Go.Proofs.Ytlpddekfbkafaaa.Num Go.Proofs.Ytlpddekfbkafaaa.Up
theorem boxes2 (w : World) (a b : T) : Below w.heap.size w ((w.alloc (cellsT a)).alloc (cellsT b)) ∧ B1 ((w.alloc (cellsT a)).alloc (cellsT b)) w.heap.size a ∧ B1 ((w.alloc (cellsT a)).alloc (cellsT b)) (w.heap.size + 1) b := by
  refine ⟨(((Below.refl _ _).alloc (Nat.le_refl _) _).alloc (by simp) _), heap_old (heap_new _ _) _, ?_⟩
  have h := heap_new (w.alloc (cellsT a)) (cellsT b)
  rw [show (w.alloc (cellsT a)).heap.size = w.heap.size + 1 by simp] at h
  exact h
set_option maxRecDepth 100000 in
set_option maxHeartbeats 8000000 in
theorem tnumBits (a b : T) (v u : BitVec 64) (w : World) :
    Calls Try.prog 4 #[a.val, b.val, .int .u64 (tn v), .int .u64 (tn u)] w fun e w' => e = .returned (.bool true) ∧ Below w.heap.size w w' := by
  have HS := boxes2 w a b
  unfold T.val
  go_enter Try.func4, Try.ntmps4
  go_upto_region 1 with fail
  obtain ⟨W0, hW0⟩ : ∃ W0, W0 = (w.alloc (cellsT a)).alloc (cellsT b) := ⟨_, rfl⟩
  rw [← hW0] at HS
  unfold cellsT at hW0
  rw [← hW0]
  clear hW0
  have HA := hid HS.2.1
  have HBb := hid HS.2.2
  have HB := hid HS.1
  clear HS
  -- region 1
  refine lin_begin (Below W0.heap.size W0) rfl (Below.refl _ _) ?_
  refine lin_val (i := 0) rfl rfl (by rfl) (by intro x hx; have f := (HA.out.up hx).cells; obtain ⟨f0, f1⟩ := f; go_simp; (first | done | exact rfl)) ?_
  simp only [List.set_cons_succ, List.set_cons_zero]
  refine lin_val (i := 1) rfl rfl (by rfl) (by intro x hx; have f := (HBb.out.up hx).cells; obtain ⟨f0, f1⟩ := f; go_simp; (first | done | exact rfl)) ?_
  simp only [List.set_cons_succ, List.set_cons_zero]
  refine lin_call (i := 2) (f := 13) (args := #[a.val, b.val]) (ups_below (Nat.le_refl _)) rfl rfl (by rfl) (fun x hx => by kernel_rfl) (by intro x hx; exact add_any a b _) ?_
  simp only [List.set_cons_succ, List.set_cons_zero]
  refine lin_make_as (i := 3) (ups_below (Nat.le_refl _)) rfl rfl (by rfl) (.cells #[.int .u64 0, .int .u64 0] 24 (0, 0)) (fun k => .pointer (some ⟨k, 0, none⟩)) (RoomAt W0.heap.size) (fun x hx => roomAt_new hx _ _) (by intro x hx; go_simp; (first | done | exact rfl)) (fun k1 => ?_)
  simp only [List.set_cons_succ, List.set_cons_zero]
  refine lin_store (i := 4) (fun x => Below W0.heap.size W0 x ∧ Has W0.heap.size k1 (addR a b) x) rfl rfl (by rfl) (Put2 k1 _ _) (by intro x hx; obtain ⟨hx, rm⟩ := hx; obtain ⟨z0, z1, z2, z3, z4, z5⟩ := rm.2.facts; (try unfold T.val); go_simp; (first | done | rfl)) (by intro x hx; exact room_put (addR a b) x hx) ?_
  refine lin_done ?_
  intro W1 hx
  obtain ⟨hx, hh⟩ := hx
  replace HA := hid (HA.out.up hx)
  replace HBb := hid (HBb.out.up hx)
  replace HB := hid (HB.out.trans (hx.mono HB.out.size))
  have HP := hid hh.2
  clear hh
  clear hx
  go_upto_region 2 with fail
  -- region 2
  refine lin_begin (Below W1.heap.size W1) rfl (Below.refl _ _) ?_
  refine lin_val (i := 0) rfl rfl (by rfl) (by intro x hx; have f := (HA.out.up hx).cells; obtain ⟨f0, f1⟩ := f; go_simp; (first | done | exact rfl)) ?_
  simp only [List.set_cons_succ, List.set_cons_zero]
  refine lin_val (i := 1) rfl rfl (by rfl) (by intro x hx; have f := (HBb.out.up hx).cells; obtain ⟨f0, f1⟩ := f; go_simp; (first | done | exact rfl)) ?_
  simp only [List.set_cons_succ, List.set_cons_zero]
  refine lin_call (i := 2) (f := 14) (args := #[a.val, b.val]) (ups_below (Nat.le_refl _)) rfl rfl (by rfl) (fun x hx => by kernel_rfl) (by intro x hx; exact sub_any a b _) ?_
  simp only [List.set_cons_succ, List.set_cons_zero]
  refine lin_make_as (i := 3) (ups_below (Nat.le_refl _)) rfl rfl (by rfl) (.cells #[.int .u64 0, .int .u64 0] 24 (0, 0)) (fun k => .pointer (some ⟨k, 0, none⟩)) (RoomAt W1.heap.size) (fun x hx => roomAt_new hx _ _) (by intro x hx; go_simp; (first | done | exact rfl)) (fun k2 => ?_)
  simp only [List.set_cons_succ, List.set_cons_zero]
  refine lin_store (i := 4) (fun x => Below W1.heap.size W1 x ∧ Has W1.heap.size k2 (subR a b) x) rfl rfl (by rfl) (Put2 k2 _ _) (by intro x hx; obtain ⟨hx, rm⟩ := hx; obtain ⟨z0, z1, z2, z3, z4, z5⟩ := rm.2.facts; (try unfold T.val); go_simp; (first | done | rfl)) (by intro x hx; exact room_put (subR a b) x hx) ?_
  refine lin_done ?_
  intro W2 hx
  obtain ⟨hx, hh⟩ := hx
  replace HA := hid (HA.out.up hx)
  replace HBb := hid (HBb.out.up hx)
  replace HP := hid (HP.out.up hx)
  replace HB := hid (HB.out.trans (hx.mono HB.out.size))
  have HD := hid hh.2
  clear hh
  clear hx
  go_upto_region 3 with fail
  -- region 3
  refine up_begin (Below W2.heap.size W2) 6 rfl (by kernel_rfl) ((Below.refl _ _).drew) ?_
  refine take_val (i := 0) (ups_below (Nat.le_refl _)) rfl rfl (by kernel_rfl) (fun _ _ _ h => h) (by rfl) (by intro x hx; have f := (HA.out.up hx).cells; obtain ⟨f0, f1⟩ := f; go_simp; (first | done | exact rfl)) ?_
  simp only [List.set_cons_succ, List.set_cons_zero]
  refine take_call (i := 1) (f := 8) (args := #[a.val, .int .u64 0]) (ups_below (Nat.le_refl _)) rfl rfl (by kernel_rfl) (fun _ _ _ h => h) (by rfl) (fun x hx => by kernel_rfl) (by intro x hx; exact some_any a 0#64 _) ?_
  simp only [List.set_cons_succ, List.set_cons_zero]
  refine take_val (i := 2) (ups_below (Nat.le_refl _)) rfl rfl (by kernel_rfl) (fun _ _ _ h => h) (by rfl) (by intro x hx; have f := (HBb.out.up hx).cells; obtain ⟨f0, f1⟩ := f; go_simp; (first | done | exact rfl)) ?_
  simp only [List.set_cons_succ, List.set_cons_zero]
  refine take_call (i := 3) (f := 8) (args := #[b.val, .int .u64 0]) (ups_below (Nat.le_refl _)) rfl rfl (by kernel_rfl) (fun _ _ _ h => h) (by rfl) (fun x hx => by kernel_rfl) (by intro x hx; exact some_any b 0#64 _) ?_
  simp only [List.set_cons_succ, List.set_cons_zero]
  refine take_val (i := 4) (ups_below (Nat.le_refl _)) rfl rfl (by kernel_rfl) (fun _ _ _ h => h) (by rfl) (by intro x hx; go_simp; (first | rw [xorT] | rw [orT] | rw [andT] | rw [andNotT] | rw [addT] | rw [subT] | skip); (first | done | exact rfl)) ?_
  simp only [List.set_cons_succ, List.set_cons_zero]
  refine take_val (i := 5) (ups_below (Nat.le_refl _)) rfl rfl (by kernel_rfl) (fun _ _ _ h => h) (by rfl) (by intro x hx; go_simp; (first | done | exact rfl)) ?_
  simp only [List.set_cons_succ, List.set_cons_zero]
  refine take_done (by kernel_rfl) ?_ _
  intro W3 hx
  replace HA := hid (HA.out.up hx)
  replace HBb := hid (HBb.out.up hx)
  replace HP := hid (HP.out.up hx)
  replace HD := hid (HD.out.up hx)
  replace HB := hid (HB.out.trans (hx.mono HB.out.size))
  clear hx
  go_upto_region 4 with fail
  -- region 4
  refine up_begin (Below W3.heap.size W3) 6 rfl (by kernel_rfl) ((Below.refl _ _).drew) ?_
  refine take_val (i := 0) (ups_below (Nat.le_refl _)) rfl rfl (by kernel_rfl) (fun _ _ _ h => h) (by rfl) (by intro x hx; have f := (HA.out.up hx).cells; obtain ⟨f0, f1⟩ := f; go_simp; (first | done | exact rfl)) ?_
  simp only [List.set_cons_succ, List.set_cons_zero]
  refine take_call (i := 1) (f := 8) (args := #[a.val, .int .u64 18446744073709551615]) (ups_below (Nat.le_refl _)) rfl rfl (by kernel_rfl) (fun _ _ _ h => h) (by rfl) (fun x hx => by kernel_rfl) (by intro x hx; exact some_any a 18446744073709551615#64 _) ?_
  simp only [List.set_cons_succ, List.set_cons_zero]
  refine take_val (i := 2) (ups_below (Nat.le_refl _)) rfl rfl (by kernel_rfl) (fun _ _ _ h => h) (by rfl) (by intro x hx; have f := (HBb.out.up hx).cells; obtain ⟨f0, f1⟩ := f; go_simp; (first | done | exact rfl)) ?_
  simp only [List.set_cons_succ, List.set_cons_zero]
  refine take_call (i := 3) (f := 8) (args := #[b.val, .int .u64 18446744073709551615]) (ups_below (Nat.le_refl _)) rfl rfl (by kernel_rfl) (fun _ _ _ h => h) (by rfl) (fun x hx => by kernel_rfl) (by intro x hx; exact some_any b 18446744073709551615#64 _) ?_
  simp only [List.set_cons_succ, List.set_cons_zero]
  refine take_val (i := 4) (ups_below (Nat.le_refl _)) rfl rfl (by kernel_rfl) (fun _ _ _ h => h) (by rfl) (by intro x hx; go_simp; (first | rw [xorT] | rw [orT] | rw [andT] | rw [andNotT] | rw [addT] | rw [subT] | skip); (first | done | exact rfl)) ?_
  simp only [List.set_cons_succ, List.set_cons_zero]
  refine take_val (i := 5) (ups_below (Nat.le_refl _)) rfl rfl (by kernel_rfl) (fun _ _ _ h => h) (by rfl) (by intro x hx; go_simp; (first | done | exact rfl)) ?_
  simp only [List.set_cons_succ, List.set_cons_zero]
  refine take_done (by kernel_rfl) ?_ _
  intro W4 hx
  replace HA := hid (HA.out.up hx)
  replace HBb := hid (HBb.out.up hx)
  replace HP := hid (HP.out.up hx)
  replace HD := hid (HD.out.up hx)
  replace HB := hid (HB.out.trans (hx.mono HB.out.size))
  clear hx
  go_upto_region 5 with fail
  -- region 5
  refine up_begin (Below W4.heap.size W4) 6 rfl (by kernel_rfl) ((Below.refl _ _).drew) ?_
  refine take_val (i := 0) (ups_below (Nat.le_refl _)) rfl rfl (by kernel_rfl) (fun _ _ _ h => h) (by rfl) (by intro x hx; have f := (HA.out.up hx).cells; obtain ⟨f0, f1⟩ := f; go_simp; (first | done | exact rfl)) ?_
  simp only [List.set_cons_succ, List.set_cons_zero]
  refine take_call (i := 1) (f := 8) (args := #[a.val, .int .u64 18446744073709551615]) (ups_below (Nat.le_refl _)) rfl rfl (by kernel_rfl) (fun _ _ _ h => h) (by rfl) (fun x hx => by kernel_rfl) (by intro x hx; exact some_any a 18446744073709551615#64 _) ?_
  simp only [List.set_cons_succ, List.set_cons_zero]
  refine take_val (i := 2) (ups_below (Nat.le_refl _)) rfl rfl (by kernel_rfl) (fun _ _ _ h => h) (by rfl) (by intro x hx; have f := (HBb.out.up hx).cells; obtain ⟨f0, f1⟩ := f; go_simp; (first | done | exact rfl)) ?_
  simp only [List.set_cons_succ, List.set_cons_zero]
  refine take_call (i := 3) (f := 8) (args := #[b.val, .int .u64 0]) (ups_below (Nat.le_refl _)) rfl rfl (by kernel_rfl) (fun _ _ _ h => h) (by rfl) (fun x hx => by kernel_rfl) (by intro x hx; exact some_any b 0#64 _) ?_
  simp only [List.set_cons_succ, List.set_cons_zero]
  refine take_val (i := 4) (ups_below (Nat.le_refl _)) rfl rfl (by kernel_rfl) (fun _ _ _ h => h) (by rfl) (by intro x hx; go_simp; (first | rw [xorT] | rw [orT] | rw [andT] | rw [andNotT] | rw [addT] | rw [subT] | skip); (first | done | exact rfl)) ?_
  simp only [List.set_cons_succ, List.set_cons_zero]
  refine take_val (i := 5) (ups_below (Nat.le_refl _)) rfl rfl (by kernel_rfl) (fun _ _ _ h => h) (by rfl) (by intro x hx; go_simp; (first | done | exact rfl)) ?_
  simp only [List.set_cons_succ, List.set_cons_zero]
  refine take_done (by kernel_rfl) ?_ _
  intro W5 hx
  replace HA := hid (HA.out.up hx)
  replace HBb := hid (HBb.out.up hx)
  replace HP := hid (HP.out.up hx)
  replace HD := hid (HD.out.up hx)
  replace HB := hid (HB.out.trans (hx.mono HB.out.size))
  clear hx
  go_upto_region 6 with fail
  -- region 6
  refine up_begin (Below W5.heap.size W5) 6 rfl (by kernel_rfl) ((Below.refl _ _).drew) ?_
  refine take_val (i := 0) (ups_below (Nat.le_refl _)) rfl rfl (by kernel_rfl) (fun _ _ _ h => h) (by rfl) (by intro x hx; have f := (HA.out.up hx).cells; obtain ⟨f0, f1⟩ := f; go_simp; (first | done | exact rfl)) ?_
  simp only [List.set_cons_succ, List.set_cons_zero]
  refine take_call (i := 1) (f := 8) (args := #[a.val, .int .u64 0]) (ups_below (Nat.le_refl _)) rfl rfl (by kernel_rfl) (fun _ _ _ h => h) (by rfl) (fun x hx => by kernel_rfl) (by intro x hx; exact some_any a 0#64 _) ?_
  simp only [List.set_cons_succ, List.set_cons_zero]
  refine take_val (i := 2) (ups_below (Nat.le_refl _)) rfl rfl (by kernel_rfl) (fun _ _ _ h => h) (by rfl) (by intro x hx; have f := (HBb.out.up hx).cells; obtain ⟨f0, f1⟩ := f; go_simp; (first | done | exact rfl)) ?_
  simp only [List.set_cons_succ, List.set_cons_zero]
  refine take_call (i := 3) (f := 8) (args := #[b.val, .int .u64 18446744073709551615]) (ups_below (Nat.le_refl _)) rfl rfl (by kernel_rfl) (fun _ _ _ h => h) (by rfl) (fun x hx => by kernel_rfl) (by intro x hx; exact some_any b 18446744073709551615#64 _) ?_
  simp only [List.set_cons_succ, List.set_cons_zero]
  refine take_val (i := 4) (ups_below (Nat.le_refl _)) rfl rfl (by kernel_rfl) (fun _ _ _ h => h) (by rfl) (by intro x hx; go_simp; (first | rw [xorT] | rw [orT] | rw [andT] | rw [andNotT] | rw [addT] | rw [subT] | skip); (first | done | exact rfl)) ?_
  simp only [List.set_cons_succ, List.set_cons_zero]
  refine take_val (i := 5) (ups_below (Nat.le_refl _)) rfl rfl (by kernel_rfl) (fun _ _ _ h => h) (by rfl) (by intro x hx; go_simp; (first | done | exact rfl)) ?_
  simp only [List.set_cons_succ, List.set_cons_zero]
  refine take_done (by kernel_rfl) ?_ _
  intro W6 hx
  replace HA := hid (HA.out.up hx)
  replace HBb := hid (HBb.out.up hx)
  replace HP := hid (HP.out.up hx)
  replace HD := hid (HD.out.up hx)
  replace HB := hid (HB.out.trans (hx.mono HB.out.size))
  clear hx
  go_upto_region 7 with fail
  -- region 7
  refine lin_begin (Below W6.heap.size W6) rfl (Below.refl _ _) ?_
  refine lin_val (i := 0) rfl rfl (by rfl) (by intro x hx; go_simp; (first | done | exact rfl)) ?_
  simp only [List.set_cons_succ, List.set_cons_zero]
  refine lin_val (i := 1) rfl rfl (by rfl) (by intro x hx; have f := (HP.out.up hx).cells; obtain ⟨f0, f1⟩ := f; go_simp; (first | done | exact rfl)) ?_
  simp only [List.set_cons_succ, List.set_cons_zero]
  refine lin_val (i := 2) rfl rfl (by rfl) (by intro x hx; go_simp; (first | done | exact rfl)) ?_
  simp only [List.set_cons_succ, List.set_cons_zero]
  refine lin_val (i := 3) rfl rfl (by rfl) (by intro x hx; go_simp; (first | done | exact rfl)) ?_
  simp only [List.set_cons_succ, List.set_cons_zero]
  refine lin_val (i := 4) rfl rfl (by rfl) (by intro x hx; go_simp; (first | rw [xorT] | rw [orT] | rw [andT] | rw [andNotT] | rw [addT] | rw [subT] | skip); (first | done | exact rfl)) ?_
  simp only [List.set_cons_succ, List.set_cons_zero]
  refine lin_val (i := 5) rfl rfl (by rfl) (by intro x hx; go_simp; (first | done | exact rfl)) ?_
  simp only [List.set_cons_succ, List.set_cons_zero]
  refine lin_val (i := 6) rfl rfl (by rfl) (by intro x hx; have f := (HA.out.up hx).cells; obtain ⟨f0, f1⟩ := f; go_simp; (first | done | exact rfl)) ?_
  simp only [List.set_cons_succ, List.set_cons_zero]
  refine lin_val (i := 7) rfl rfl (by rfl) (by intro x hx; go_simp; (first | rw [xorT] | rw [orT] | rw [andT] | rw [andNotT] | rw [addT] | rw [subT] | skip); (first | done | exact rfl)) ?_
  simp only [List.set_cons_succ, List.set_cons_zero]
  refine lin_val (i := 8) rfl rfl (by rfl) (by intro x hx; go_simp; (first | done | exact rfl)) ?_
  simp only [List.set_cons_succ, List.set_cons_zero]
  refine lin_val (i := 9) rfl rfl (by rfl) (by intro x hx; have f := (HBb.out.up hx).cells; obtain ⟨f0, f1⟩ := f; go_simp; (first | done | exact rfl)) ?_
  simp only [List.set_cons_succ, List.set_cons_zero]
  refine lin_val (i := 10) rfl rfl (by rfl) (by intro x hx; go_simp; (first | rw [xorT] | rw [orT] | rw [andT] | rw [andNotT] | rw [addT] | rw [subT] | skip); (first | done | exact rfl)) ?_
  simp only [List.set_cons_succ, List.set_cons_zero]
  refine lin_val (i := 11) (v := .bool true) rfl rfl (by rfl) (by intro x hx; go_simp; rw [bits_add a b]; (first | done | exact rfl)) ?_
  simp only [List.set_cons_succ, List.set_cons_zero]
  refine lin_val (i := 12) rfl rfl (by rfl) (by intro x hx; go_simp; (first | done | exact rfl)) ?_
  simp only [List.set_cons_succ, List.set_cons_zero]
  refine lin_done ?_
  intro W7 hx
  replace HA := hid (HA.out.up hx)
  replace HBb := hid (HBb.out.up hx)
  replace HP := hid (HP.out.up hx)
  replace HD := hid (HD.out.up hx)
  replace HB := hid (HB.out.trans (hx.mono HB.out.size))
  clear hx
  go_upto_region 8 with fail
  -- region 8
  refine lin_begin (Below W7.heap.size W7) rfl (Below.refl _ _) ?_
  refine lin_val (i := 0) rfl rfl (by rfl) (by intro x hx; go_simp; (first | done | exact rfl)) ?_
  simp only [List.set_cons_succ, List.set_cons_zero]
  refine lin_val (i := 1) rfl rfl (by rfl) (by intro x hx; have f := (HD.out.up hx).cells; obtain ⟨f0, f1⟩ := f; go_simp; (first | done | exact rfl)) ?_
  simp only [List.set_cons_succ, List.set_cons_zero]
  refine lin_val (i := 2) rfl rfl (by rfl) (by intro x hx; go_simp; (first | done | exact rfl)) ?_
  simp only [List.set_cons_succ, List.set_cons_zero]
  refine lin_val (i := 3) rfl rfl (by rfl) (by intro x hx; go_simp; (first | done | exact rfl)) ?_
  simp only [List.set_cons_succ, List.set_cons_zero]
  refine lin_val (i := 4) rfl rfl (by rfl) (by intro x hx; go_simp; (first | rw [xorT] | rw [orT] | rw [andT] | rw [andNotT] | rw [addT] | rw [subT] | skip); (first | done | exact rfl)) ?_
  simp only [List.set_cons_succ, List.set_cons_zero]
  refine lin_val (i := 5) rfl rfl (by rfl) (by intro x hx; go_simp; (first | done | exact rfl)) ?_
  simp only [List.set_cons_succ, List.set_cons_zero]
  refine lin_val (i := 6) rfl rfl (by rfl) (by intro x hx; have f := (HA.out.up hx).cells; obtain ⟨f0, f1⟩ := f; go_simp; (first | done | exact rfl)) ?_
  simp only [List.set_cons_succ, List.set_cons_zero]
  refine lin_val (i := 7) rfl rfl (by rfl) (by intro x hx; go_simp; (first | rw [xorT] | rw [orT] | rw [andT] | rw [andNotT] | rw [addT] | rw [subT] | skip); (first | done | exact rfl)) ?_
  simp only [List.set_cons_succ, List.set_cons_zero]
  refine lin_val (i := 8) rfl rfl (by rfl) (by intro x hx; go_simp; (first | done | exact rfl)) ?_
  simp only [List.set_cons_succ, List.set_cons_zero]
  refine lin_val (i := 9) rfl rfl (by rfl) (by intro x hx; have f := (HBb.out.up hx).cells; obtain ⟨f0, f1⟩ := f; go_simp; (first | done | exact rfl)) ?_
  simp only [List.set_cons_succ, List.set_cons_zero]
  refine lin_val (i := 10) rfl rfl (by rfl) (by intro x hx; go_simp; (first | rw [xorT] | rw [orT] | rw [andT] | rw [andNotT] | rw [addT] | rw [subT] | skip); (first | done | exact rfl)) ?_
  simp only [List.set_cons_succ, List.set_cons_zero]
  refine lin_val (i := 11) (v := .bool true) rfl rfl (by rfl) (by intro x hx; go_simp; rw [bits_sub a b]; (first | done | exact rfl)) ?_
  simp only [List.set_cons_succ, List.set_cons_zero]
  refine lin_val (i := 12) rfl rfl (by rfl) (by intro x hx; go_simp; (first | done | exact rfl)) ?_
  simp only [List.set_cons_succ, List.set_cons_zero]
  refine lin_done ?_
  intro W8 hx
  replace HA := hid (HA.out.up hx)
  replace HBb := hid (HBb.out.up hx)
  replace HP := hid (HP.out.up hx)
  replace HD := hid (HD.out.up hx)
  replace HB := hid (HB.out.trans (hx.mono HB.out.size))
  clear hx
  go_upto_region 9 with fail
  -- region 9
  refine up_begin (Below W8.heap.size W8) 35 rfl (by kernel_rfl) ((Below.refl _ _).drew) ?_
  refine take_val (i := 0) (ups_below (Nat.le_refl _)) rfl rfl (by kernel_rfl) (fun _ _ _ h => h) (by rfl) (by intro x hx; go_simp; (first | done | exact rfl)) ?_
  simp only [List.set_cons_succ, List.set_cons_zero]
  refine take_val (i := 1) (ups_below (Nat.le_refl _)) rfl rfl (by kernel_rfl) (fun _ _ _ h => h) (by rfl) (by intro x hx; go_simp; (first | done | exact rfl)) ?_
  simp only [List.set_cons_succ, List.set_cons_zero]
  refine take_val (i := 2) (ups_below (Nat.le_refl _)) rfl rfl (by kernel_rfl) (fun _ _ _ h => h) (by rfl) (by intro x hx; go_simp; (first | done | exact rfl)) ?_
  simp only [List.set_cons_succ, List.set_cons_zero]
  refine take_val (i := 3) (ups_below (Nat.le_refl _)) rfl rfl (by kernel_rfl) (fun _ _ _ h => h) (by rfl) (by intro x hx; go_simp; (first | done | exact rfl)) ?_
  simp only [List.set_cons_succ, List.set_cons_zero]
  refine take_val (i := 4) (ups_below (Nat.le_refl _)) rfl rfl (by kernel_rfl) (fun _ _ _ h => h) (by rfl) (by intro x hx; go_simp; (first | done | exact rfl)) ?_
  simp only [List.set_cons_succ, List.set_cons_zero]
  refine take_val (i := 5) (ups_below (Nat.le_refl _)) rfl rfl (by kernel_rfl) (fun _ _ _ h => h) (by rfl) (by intro x hx; go_simp; (first | done | exact rfl)) ?_
  simp only [List.set_cons_succ, List.set_cons_zero]
  refine take_val (i := 6) (ups_below (Nat.le_refl _)) rfl rfl (by kernel_rfl) (fun _ _ _ h => h) (by rfl) (by intro x hx; have f := (HP.out.up hx).cells; obtain ⟨f0, f1⟩ := f; go_simp; (first | done | exact rfl)) ?_
  simp only [List.set_cons_succ, List.set_cons_zero]
  refine take_val (i := 7) (ups_below (Nat.le_refl _)) rfl rfl (by kernel_rfl) (fun _ _ _ h => h) (by rfl) (by intro x hx; go_simp; (first | done | exact rfl)) ?_
  simp only [List.set_cons_succ, List.set_cons_zero]
  refine take_val (i := 8) (ups_below (Nat.le_refl _)) rfl rfl (by kernel_rfl) (fun _ _ _ h => h) (by rfl) (by intro x hx; have f := (HP.out.up hx).cells; obtain ⟨f0, f1⟩ := f; go_simp; (first | done | exact rfl)) ?_
  simp only [List.set_cons_succ, List.set_cons_zero]
  refine take_val (i := 9) (ups_below (Nat.le_refl _)) rfl rfl (by kernel_rfl) (fun _ _ _ h => h) (by rfl) (by intro x hx; go_simp; (first | rw [xorT] | rw [orT] | rw [andT] | rw [andNotT] | rw [addT] | rw [subT] | skip); (first | done | exact rfl)) ?_
  simp only [List.set_cons_succ, List.set_cons_zero]
  refine take_val (i := 10) (v := .bool true) (ups_below (Nat.le_refl _)) rfl rfl (by kernel_rfl) (fun _ _ _ h => h) (by rfl) (by intro x hx; go_simp; rw [add_clean a b]; (first | done | exact rfl)) ?_
  simp only [List.set_cons_succ, List.set_cons_zero]
  refine take_val (i := 11) (ups_below (Nat.le_refl _)) rfl rfl (by kernel_rfl) (fun _ _ _ h => h) (by rfl) (by intro x hx; go_simp; (first | done | exact rfl)) ?_
  simp only [List.set_cons_succ, List.set_cons_zero]
  refine take_val (i := 12) (ups_below (Nat.le_refl _)) rfl rfl (by kernel_rfl) (fun _ _ _ h => h) (by rfl) (by intro x hx; go_simp; (first | done | exact rfl)) ?_
  simp only [List.set_cons_succ, List.set_cons_zero]
  refine take_val (i := 13) (ups_below (Nat.le_refl _)) rfl rfl (by kernel_rfl) (fun _ _ _ h => h) (by rfl) (by intro x hx; go_simp; (first | done | exact rfl)) ?_
  simp only [List.set_cons_succ, List.set_cons_zero]
  refine take_val (i := 14) (ups_below (Nat.le_refl _)) rfl rfl (by kernel_rfl) (fun _ _ _ h => h) (by rfl) (by intro x hx; have f := (HD.out.up hx).cells; obtain ⟨f0, f1⟩ := f; go_simp; (first | done | exact rfl)) ?_
  simp only [List.set_cons_succ, List.set_cons_zero]
  refine take_val (i := 15) (ups_below (Nat.le_refl _)) rfl rfl (by kernel_rfl) (fun _ _ _ h => h) (by rfl) (by intro x hx; go_simp; (first | done | exact rfl)) ?_
  simp only [List.set_cons_succ, List.set_cons_zero]
  refine take_val (i := 16) (ups_below (Nat.le_refl _)) rfl rfl (by kernel_rfl) (fun _ _ _ h => h) (by rfl) (by intro x hx; have f := (HD.out.up hx).cells; obtain ⟨f0, f1⟩ := f; go_simp; (first | done | exact rfl)) ?_
  simp only [List.set_cons_succ, List.set_cons_zero]
  refine take_val (i := 17) (ups_below (Nat.le_refl _)) rfl rfl (by kernel_rfl) (fun _ _ _ h => h) (by rfl) (by intro x hx; go_simp; (first | rw [xorT] | rw [orT] | rw [andT] | rw [andNotT] | rw [addT] | rw [subT] | skip); (first | done | exact rfl)) ?_
  simp only [List.set_cons_succ, List.set_cons_zero]
  refine take_val (i := 18) (v := .bool true) (ups_below (Nat.le_refl _)) rfl rfl (by kernel_rfl) (fun _ _ _ h => h) (by rfl) (by intro x hx; go_simp; rw [sub_clean a b]; (first | done | exact rfl)) ?_
  simp only [List.set_cons_succ, List.set_cons_zero]
  refine take_val (i := 19) (ups_below (Nat.le_refl _)) rfl rfl (by kernel_rfl) (fun _ _ _ h => h) (by rfl) (by intro x hx; go_simp; (first | done | exact rfl)) ?_
  simp only [List.set_cons_succ, List.set_cons_zero]
  refine take_val (i := 20) (ups_below (Nat.le_refl _)) rfl rfl (by kernel_rfl) (fun _ _ _ h => h) (by rfl) (by intro x hx; go_simp; (first | done | exact rfl)) ?_
  simp only [List.set_cons_succ, List.set_cons_zero]
  refine take_val (i := 21) (ups_below (Nat.le_refl _)) rfl rfl (by kernel_rfl) (fun _ _ _ h => h) (by rfl) (by intro x hx; have f := (HP.out.up hx).cells; obtain ⟨f0, f1⟩ := f; go_simp; (first | done | exact rfl)) ?_
  simp only [List.set_cons_succ, List.set_cons_zero]
  refine take_val (i := 22) (ups_below (Nat.le_refl _)) rfl rfl (by kernel_rfl) (fun _ _ _ h => h) (by rfl) (by intro x hx; have f := (HA.out.up hx).cells; obtain ⟨f0, f1⟩ := f; go_simp; (first | done | exact rfl)) ?_
  simp only [List.set_cons_succ, List.set_cons_zero]
  refine take_val (i := 23) (ups_below (Nat.le_refl _)) rfl rfl (by kernel_rfl) (fun _ _ _ h => h) (by rfl) (by intro x hx; go_simp; (first | done | exact rfl)) ?_
  simp only [List.set_cons_succ, List.set_cons_zero]
  refine take_call (i := 24) (f := 8) (args := #[a.val, .int .u64 (tn v)]) (ups_below (Nat.le_refl _)) rfl rfl (by kernel_rfl) (fun _ _ _ h => h) (by rfl) (fun x hx => by kernel_rfl) (by intro x hx; exact some_any a v _) ?_
  simp only [List.set_cons_succ, List.set_cons_zero]
  refine take_val (i := 25) (ups_below (Nat.le_refl _)) rfl rfl (by kernel_rfl) (fun _ _ _ h => h) (by rfl) (by intro x hx; have f := (HBb.out.up hx).cells; obtain ⟨f0, f1⟩ := f; go_simp; (first | done | exact rfl)) ?_
  simp only [List.set_cons_succ, List.set_cons_zero]
  refine take_val (i := 26) (ups_below (Nat.le_refl _)) rfl rfl (by kernel_rfl) (fun _ _ _ h => h) (by rfl) (by intro x hx; go_simp; (first | done | exact rfl)) ?_
  simp only [List.set_cons_succ, List.set_cons_zero]
  refine take_call (i := 27) (f := 8) (args := #[b.val, .int .u64 (tn u)]) (ups_below (Nat.le_refl _)) rfl rfl (by kernel_rfl) (fun _ _ _ h => h) (by rfl) (fun x hx => by kernel_rfl) (by intro x hx; exact some_any b u _) ?_
  simp only [List.set_cons_succ, List.set_cons_zero]
  refine take_val (i := 28) (ups_below (Nat.le_refl _)) rfl rfl (by kernel_rfl) (fun _ _ _ h => h) (by rfl) (by intro x hx; go_simp; (first | rw [xorT] | rw [orT] | rw [andT] | rw [andNotT] | rw [addT] | rw [subT] | skip); (first | done | exact rfl)) ?_
  simp only [List.set_cons_succ, List.set_cons_zero]
  refine take_call (i := 29) (f := 9) (args := #[(addR a b).val, .int .u64 (tn (someR a v + someR b u))]) (ups_below (Nat.le_refl _)) rfl rfl (by kernel_rfl) (fun _ _ _ h => h) (by rfl) (fun x hx => by kernel_rfl) (by intro x hx; exact in_is (a := addR a b) (v := someR a v + someR b u) (add_in a b v u)) ?_
  simp only [List.set_cons_succ, List.set_cons_zero]
  refine take_val (i := 30) (ups_below (Nat.le_refl _)) rfl rfl (by kernel_rfl) (fun _ _ _ h => h) (by rfl) (by intro x hx; go_simp; (first | done | exact rfl)) ?_
  simp only [List.set_cons_succ, List.set_cons_zero]
  refine take_val (i := 31) (ups_below (Nat.le_refl _)) rfl rfl (by kernel_rfl) (fun _ _ _ h => h) (by rfl) (by intro x hx; go_simp; (first | done | exact rfl)) ?_
  simp only [List.set_cons_succ, List.set_cons_zero]
  refine take_call (i := 32) (f := 12) (args := #[]) (ups_below (Nat.le_refl _)) rfl rfl (by kernel_rfl) (fun _ _ _ h => h) (by rfl) (fun x hx => by kernel_rfl) (by intro x hx; exact works_any _) ?_
  simp only [List.set_cons_succ, List.set_cons_zero]
  refine take_val (i := 33) (ups_below (Nat.le_refl _)) rfl rfl (by kernel_rfl) (fun _ _ _ h => h) (by rfl) (by intro x hx; go_simp; (first | done | exact rfl)) ?_
  simp only [List.set_cons_succ, List.set_cons_zero]
  refine take_val (i := 34) (ups_below (Nat.le_refl _)) rfl rfl (by kernel_rfl) (fun _ _ _ h => h) (by rfl) (by intro x hx; go_simp; (first | done | exact rfl)) ?_
  simp only [List.set_cons_succ, List.set_cons_zero]
  refine take_done (by kernel_rfl) ?_ _
  intro W9 hx
  replace HA := hid (HA.out.up hx)
  replace HBb := hid (HBb.out.up hx)
  replace HP := hid (HP.out.up hx)
  replace HD := hid (HD.out.up hx)
  replace HB := hid (HB.out.trans (hx.mono HB.out.size))
  clear hx
  go_wp2
  go_ret
  exact ⟨rfl, HB.out⟩
end Go.Proofs.Ytlpddekfbkafaaa.Tn
