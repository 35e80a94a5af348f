/-
  The contracts of tnum's calls, more of them.
-/
import Derived.Test.YtpbhfpogbndljaaDoorTnC
import Derived.Test.YtpbhfpogbndljaaDoorTnW
import Derived.Deep.DeepCutAuto
namespace Go.Proofs.YtpbhfpogbndljaaDoor.Tn
open Go.RowKit Go.Proofs.YtpbhfpogbndljaaDoor.Num Go.Proofs.YtpbhfpogbndljaaDoor.Up
set_option maxRecDepth 100000 in
set_option maxHeartbeats 1000000 in
theorem xor_any (a b : T) (w : World) :
    Calls Tryd.prog 17 #[a.val, b.val] w fun e w' => e = .returned ((xorR a b).val) ∧ Below w.heap.size w w' := by
  have HS := hid (three_start w a b (.int .u64 0) (.int .u64 0))
  have HU := hid (three_ups w a b)
  unfold T.val
  go_enter Tryd.func17, Tryd.ntmps17
  go_wp2
  refine up_begin (Three w a b) 11 rfl (by kernel_rfl) (three_ups w a b _ _ HS.out (Below.refl _ _).drew) ?_
  refine take_val (i := 0) HU.out rfl rfl (by kernel_rfl) (fun _ _ _ h => h) (by rfl) (by intro x hx; obtain ⟨⟨hB, c, d⟩, z⟩ := hx; obtain ⟨c0, c1⟩ := c.cells; obtain ⟨d0, d1⟩ := d.cells; obtain ⟨z0, z1, z2, z3, z4, z5⟩ := z.facts; go_simp; (first | done | exact rfl)) ?_
  simp only [List.set_cons_succ, List.set_cons_zero]
  refine take_call (i := 1) (f := 37) (args := #[a.val]) HU.out rfl rfl (by kernel_rfl) (fun _ _ _ h => h) (by rfl) (fun x hx => by kernel_rfl) (by intro x hx; obtain ⟨⟨hB, c, d⟩, z⟩ := hx; obtain ⟨c0, c1⟩ := c.cells; obtain ⟨d0, d1⟩ := d.cells; obtain ⟨z0, z1, z2, z3, z4, z5⟩ := z.facts; exact least_any a _) ?_
  simp only [List.set_cons_succ, List.set_cons_zero]
  refine take_val (i := 2) HU.out rfl rfl (by kernel_rfl) (fun _ _ _ h => h) (by rfl) (by intro x hx; obtain ⟨⟨hB, c, d⟩, z⟩ := hx; obtain ⟨c0, c1⟩ := c.cells; obtain ⟨d0, d1⟩ := d.cells; obtain ⟨z0, z1, z2, z3, z4, z5⟩ := z.facts; go_simp; (first | done | exact rfl)) ?_
  simp only [List.set_cons_succ, List.set_cons_zero]
  refine take_call (i := 3) (f := 37) (args := #[b.val]) HU.out rfl rfl (by kernel_rfl) (fun _ _ _ h => h) (by rfl) (fun x hx => by kernel_rfl) (by intro x hx; obtain ⟨⟨hB, c, d⟩, z⟩ := hx; obtain ⟨c0, c1⟩ := c.cells; obtain ⟨d0, d1⟩ := d.cells; obtain ⟨z0, z1, z2, z3, z4, z5⟩ := z.facts; exact least_any b _) ?_
  simp only [List.set_cons_succ, List.set_cons_zero]
  refine take_val (i := 4) HU.out rfl rfl (by kernel_rfl) (fun _ _ _ h => h) (by rfl) (by intro x hx; go_simp; (first | rw [xorT] | rw [orT] | rw [andT] | rw [andNotT] | rw [addT] | rw [subT] | skip); (first | done | exact rfl)) ?_
  simp only [List.set_cons_succ, List.set_cons_zero]
  refine take_val (i := 5) HU.out rfl rfl (by kernel_rfl) (fun _ _ _ h => h) (by rfl) (by intro x hx; obtain ⟨⟨hB, c, d⟩, z⟩ := hx; obtain ⟨c0, c1⟩ := c.cells; obtain ⟨d0, d1⟩ := d.cells; obtain ⟨z0, z1, z2, z3, z4, z5⟩ := z.facts; go_simp; (first | done | exact rfl)) ?_
  simp only [List.set_cons_succ, List.set_cons_zero]
  refine take_val (i := 6) HU.out rfl rfl (by kernel_rfl) (fun _ _ _ h => h) (by rfl) (by intro x hx; obtain ⟨⟨hB, c, d⟩, z⟩ := hx; obtain ⟨c0, c1⟩ := c.cells; obtain ⟨d0, d1⟩ := d.cells; obtain ⟨z0, z1, z2, z3, z4, z5⟩ := z.facts; go_simp; (first | done | exact rfl)) ?_
  simp only [List.set_cons_succ, List.set_cons_zero]
  refine take_one (i := 7) (by kernel_rfl) (step_make HU.out rfl rfl (by rfl) (.cells #[.int .u64 (tn a.v), .int .u64 (tn a.m), .int .u64 (tn b.v), .int .u64 (tn b.m)] 24 (0, 0)) (fun k => .slice (some ⟨k, 0, none⟩) 2 2) (by intro x hx; obtain ⟨⟨hB, c, d⟩, z⟩ := hx; obtain ⟨c0, c1⟩ := c.cells; obtain ⟨d0, d1⟩ := d.cells; obtain ⟨z0, z1, z2, z3, z4, z5⟩ := z.facts; go_simp; (first | done | exact rfl)) (fun k0 w0 hw0 hk0 => ?_))
  simp only [List.set_cons_succ, List.set_cons_zero]
  have n0 := three_lt hw0 hk0
  clear hk0 hw0
  refine take_call (i := 8) (f := 35) (args := #[.slice (some ⟨k0, 0, none⟩) 2 2]) (New.ups HU.out _ _) rfl rfl (by kernel_rfl) (fun _ _ _ h => h) (by rfl) (fun x hx => by kernel_rfl) (by intro x hx; obtain ⟨hx, e⟩ := hx; obtain ⟨⟨hB, c, d⟩, z⟩ := hx; obtain ⟨c0, c1⟩ := c.cells; obtain ⟨d0, d1⟩ := d.cells; obtain ⟨z0, z1, z2, z3, z4, z5⟩ := z.facts; exact unk2_any _ a b _ e (Array.getElem?_eq_some_iff.1 e).1) ?_
  simp only [List.set_cons_succ, List.set_cons_zero]
  refine take_call (i := 9) (f := 41) (args := #[.int .u64 (tn (a.lo ^^^ b.lo)), .int .u64 (tn (a.m ||| b.m))]) (New.ups HU.out _ _) rfl rfl (by kernel_rfl) (fun _ _ _ h => h) (by rfl) (fun x hx => by kernel_rfl) (by intro x hx; obtain ⟨hx, e⟩ := hx; obtain ⟨⟨hB, c, d⟩, z⟩ := hx; obtain ⟨c0, c1⟩ := c.cells; obtain ⟨d0, d1⟩ := d.cells; obtain ⟨z0, z1, z2, z3, z4, z5⟩ := z.facts; exact except_any _ _ _) ?_
  simp only [List.set_cons_succ, List.set_cons_zero]
  refine take_one (i := 10) (by kernel_rfl) (step_store (New (Done w a b (xorR a b)) _ _) (New.ups (done_ups _ _ _ _) _ _) (fun x hx => ⟨done_three _ _ _ _ _ hx.1, hx.2⟩) rfl rfl (by rfl) (Put2 (w.heap.size + 2) _ _) (by intro x hx; obtain ⟨hx, e⟩ := hx; obtain ⟨⟨hB, c, d⟩, z⟩ := hx; obtain ⟨c0, c1⟩ := c.cells; obtain ⟨d0, d1⟩ := d.cells; obtain ⟨z0, z1, z2, z3, z4, z5⟩ := z.facts; (try unfold T.val); go_simp; (first | done | rfl)) (by intro x hx; exact three_put1 (xorR a b) hx n0) ?_)
  refine take_done (by kernel_rfl) ?_ _
  intro x hx
  obtain ⟨⟨⟨hB, _, _⟩, hR⟩, _⟩ := hx; obtain ⟨r0, r1⟩ := hR.cells
  go_wp2
  exact bodyPost_ret (v := .agg #[.int .u64 _, .int .u64 _]) (by simp [results, Tryd.results17, go_sem, r0, r1]) rfl ⟨rfl, hB⟩
/-- One tnum, and room for another; the other one is r. -/
def OneR (w : World) (a : T) (x : World) : Prop := One w a x ∧ Room (w.heap.size + 1) x
theorem oneR_ups (w : World) (a : T) : Ups (OneR w a) := ups_and (one_ups w a) (room_ups _)
theorem oneR_start (w : World) (a : T) (p q : Value) : OneR w a ((w.alloc (.cells #[.int .u64 (tn a.v), .int .u64 (tn a.m)] 24)).alloc (.cells #[p, q] 24)) := by
  refine ⟨one_ups w a _ _ (one_start w a) ((Below.refl _ _).alloc (Nat.le_refl _) _), p, q, ?_⟩
  have h := heap_new (w.alloc (.cells #[.int .u64 (tn a.v), .int .u64 (tn a.m)] 24)) (.cells #[p, q] 24)
  rw [show (w.alloc (.cells #[.int .u64 (tn a.v), .int .u64 (tn a.m)] 24)).heap.size = w.heap.size + 1 by simp] at h
  exact h
def DoneR (w : World) (a r : T) (x : World) : Prop := One w a x ∧ B1 x (w.heap.size + 1) r
theorem doneR_ups (w : World) (a r : T) : Ups (DoneR w a r) := ups_and (one_ups w a) (ups_block _ _)
theorem doneR_one (w : World) (a r : T) (x : World) (h : DoneR w a r x) : OneR w a x := ⟨h.1, _, _, h.2⟩
theorem oneR_put (w : World) (a r : T) (x : World) (h : OneR w a x) : DoneR w a r (Put2 (w.heap.size + 1) (.int .u64 (tn r.v)) (.int .u64 (tn r.m)) x) := by
  obtain ⟨⟨hb, h1⟩, p, q, h3⟩ := h
  refine ⟨⟨(hb.setCell (p := ⟨w.heap.size + 1, 0, none⟩) (by simp) _).setCell (p := ⟨w.heap.size + 1, 1, none⟩) (by simp) _, ?_⟩, ?_⟩
  · unfold B1 Put2
    rw [Below.heap_setCell _ _ _ _ (by simp), Below.heap_setCell _ _ _ _ (by simp)]; exact h1
  · exact heap_setCell_same _ _ 1 _ _ _ (heap_setCell_same _ _ 0 _ _ _ h3)
theorem alu_T (op : Int) (x y : BitVec 64) (w : World) :
    Calls Tryd.prog 36 #[.int .i64 op, .bool true, .int .u64 (tn x), .int .u64 (tn y)] w fun e w' => e = .returned (.tuple #[.int .u64 (tn (aluV 64 op x y)), .bool (aluIs op)]) ∧ Below w.heap.size w w' :=
  (WordA.alu_wide op (tn x) (tn y) w (tn_lo _) (tn_hi64 _) (tn_lo _) (tn_hi64 _)).mono fun e w' h => ⟨by rw [h.1]; unfold aluA; rw [if_pos rfl, b64_tn, b64_tn], h.2 ▸ Below.refl _ _⟩
def cutR (a : T) : T := andR a (ofR 4294967295#64)
def shiftR (op : Int) (a : T) (n : BitVec 64) : T := ⟨aluV 64 op a.lo n, aluV 64 op a.m n⟩
set_option maxRecDepth 100000 in
set_option maxHeartbeats 1000000 in
theorem cut_any (a : T) (w : World) :
    Calls Tryd.prog 26 #[a.val] w fun e w' => e = .returned ((cutR a).val) ∧ Below w.heap.size w w' := by
  have HS := hid (oneR_start w a (.int .u64 0) (.int .u64 0))
  have HU := hid (oneR_ups w a)
  unfold T.val
  go_enter Tryd.func26, Tryd.ntmps26
  go_upto_region 1 with fail
  refine up_begin (OneR w a) 4 rfl (by kernel_rfl) (oneR_ups w a _ _ HS.out (Below.refl _ _).drew) ?_
  refine take_val (i := 0) HU.out rfl rfl (by kernel_rfl) (fun _ _ _ h => h) (by rfl) (by intro x hx; obtain ⟨⟨hB, c⟩, z⟩ := hx; obtain ⟨c0, c1⟩ := c.cells; obtain ⟨z0, z1, z2, z3, z4, z5⟩ := z.facts; go_simp; (first | done | exact rfl)) ?_
  simp only [List.set_cons_succ, List.set_cons_zero]
  refine take_call (i := 1) (f := 7) (args := #[.int .u64 4294967295]) HU.out rfl rfl (by kernel_rfl) (fun _ _ _ h => h) (by rfl) (fun x hx => by kernel_rfl) (by intro x hx; obtain ⟨⟨hB, c⟩, z⟩ := hx; obtain ⟨c0, c1⟩ := c.cells; obtain ⟨z0, z1, z2, z3, z4, z5⟩ := z.facts; exact of_any 4294967295#64 _) ?_
  simp only [List.set_cons_succ, List.set_cons_zero]
  refine take_call (i := 2) (f := 15) (args := #[a.val, (ofR 4294967295#64).val]) HU.out rfl rfl (by kernel_rfl) (fun _ _ _ h => h) (by rfl) (fun x hx => by kernel_rfl) (by intro x hx; obtain ⟨⟨hB, c⟩, z⟩ := hx; obtain ⟨c0, c1⟩ := c.cells; obtain ⟨z0, z1, z2, z3, z4, z5⟩ := z.facts; exact and_any a (ofR 4294967295#64) _) ?_
  simp only [List.set_cons_succ, List.set_cons_zero]
  refine take_one (i := 3) (by kernel_rfl) (step_store (DoneR w a (cutR a)) (doneR_ups _ _ _) (doneR_one _ _ _) rfl rfl (by rfl) (Put2 (w.heap.size + 1) _ _) (by intro x hx; obtain ⟨⟨hB, c⟩, z⟩ := hx; obtain ⟨c0, c1⟩ := c.cells; obtain ⟨z0, z1, z2, z3, z4, z5⟩ := z.facts; (try unfold T.val); go_simp; (first | done | rfl)) (by intro x hx; exact oneR_put _ _ (cutR a) _ hx) ?_)
  refine take_done (by kernel_rfl) ?_ _
  intro x hx
  obtain ⟨⟨hB, _⟩, hR⟩ := hx; obtain ⟨r0, r1⟩ := hR.cells
  go_wp2
  exact bodyPost_ret (v := .agg #[.int .u64 _, .int .u64 _]) (by simp [results, Tryd.results26, go_sem, r0, r1]) rfl ⟨rfl, hB⟩
set_option maxRecDepth 100000 in
set_option maxHeartbeats 1000000 in
theorem shifted_any (op : Int) (a : T) (n : BitVec 64) (w : World) :
    Calls Tryd.prog 39 #[.int .i64 op, a.val, .int .i64 n.toInt] w fun e w' => e = .returned ((shiftR op a n).val) ∧ Below w.heap.size w w' := by
  have HS := hid (oneR_start w a (.int .u64 0) (.int .u64 0))
  have HU := hid (oneR_ups w a)
  unfold T.val
  go_enter Tryd.func39, Tryd.ntmps39
  go_upto_region 1 with fail
  refine lin_begin (OneR w a) rfl (HS.out) ?_
  refine lin_val (i := 0) rfl rfl (by rfl) (by intro x hx; go_simp; (first | done | exact rfl)) ?_
  simp only [List.set_cons_succ, List.set_cons_zero]
  refine lin_val (i := 1) rfl rfl (by rfl) (by intro x hx; obtain ⟨⟨hB, c⟩, z⟩ := hx; obtain ⟨c0, c1⟩ := c.cells; obtain ⟨z0, z1, z2, z3, z4, z5⟩ := z.facts; go_simp; (first | done | exact rfl)) ?_
  simp only [List.set_cons_succ, List.set_cons_zero]
  refine lin_call (i := 2) (f := 37) (args := #[a.val]) HU.out rfl rfl (by rfl) (fun x hx => by kernel_rfl) (by intro x hx; obtain ⟨⟨hB, c⟩, z⟩ := hx; obtain ⟨c0, c1⟩ := c.cells; obtain ⟨z0, z1, z2, z3, z4, z5⟩ := z.facts; exact least_any a _) ?_
  simp only [List.set_cons_succ, List.set_cons_zero]
  refine lin_val (i := 3) rfl rfl (by rfl) (by intro x hx; go_simp; (first | done | exact rfl)) ?_
  simp only [List.set_cons_succ, List.set_cons_zero]
  refine lin_val (i := 4) (v := .int .u64 (tn n)) rfl rfl (by rfl) (by intro x hx; go_simp; (first | rw [back64 n] | skip); (first | done | exact rfl)) ?_
  simp only [List.set_cons_succ, List.set_cons_zero]
  refine lin_call (i := 5) (f := 36) (args := #[.int .i64 op, .bool true, .int .u64 (tn a.lo), .int .u64 (tn n)]) HU.out rfl rfl (by rfl) (fun x hx => by kernel_rfl) (by intro x hx; obtain ⟨⟨hB, c⟩, z⟩ := hx; obtain ⟨c0, c1⟩ := c.cells; obtain ⟨z0, z1, z2, z3, z4, z5⟩ := z.facts; exact alu_T op a.lo n _) ?_
  simp only [List.set_cons_succ, List.set_cons_zero]
  refine lin_val (i := 6) rfl rfl (by rfl) (by intro x hx; go_simp; (first | done | exact rfl)) ?_
  simp only [List.set_cons_succ, List.set_cons_zero]
  refine lin_val (i := 7) rfl rfl (by rfl) (by intro x hx; go_simp; (first | done | exact rfl)) ?_
  simp only [List.set_cons_succ, List.set_cons_zero]
  refine lin_val (i := 8) rfl rfl (by rfl) (by intro x hx; go_simp; (first | done | exact rfl)) ?_
  simp only [List.set_cons_succ, List.set_cons_zero]
  refine lin_val (i := 9) rfl rfl (by rfl) (by intro x hx; go_simp; (first | done | exact rfl)) ?_
  simp only [List.set_cons_succ, List.set_cons_zero]
  refine lin_val (i := 10) rfl rfl (by rfl) (by intro x hx; go_simp; (first | done | exact rfl)) ?_
  simp only [List.set_cons_succ, List.set_cons_zero]
  refine lin_done ?_
  intro x hx
  replace HS := hid hx
  clear hx
  go_upto_region 2 with fail
  refine lin_begin (OneR w a) rfl (HS.out) ?_
  refine lin_val (i := 0) rfl rfl (by rfl) (by intro x hx; go_simp; (first | done | exact rfl)) ?_
  simp only [List.set_cons_succ, List.set_cons_zero]
  refine lin_val (i := 1) rfl rfl (by rfl) (by intro x hx; obtain ⟨⟨hB, c⟩, z⟩ := hx; obtain ⟨c0, c1⟩ := c.cells; obtain ⟨z0, z1, z2, z3, z4, z5⟩ := z.facts; go_simp; (first | done | exact rfl)) ?_
  simp only [List.set_cons_succ, List.set_cons_zero]
  refine lin_make (i := 2) HU.out rfl rfl (by rfl) (.cells #[.int .u64 (tn a.v), .int .u64 (tn a.m)] 24 (0, 0)) (fun k => .slice (some ⟨k, 0, none⟩) 1 1) (by intro x hx; obtain ⟨⟨hB, c⟩, z⟩ := hx; obtain ⟨c0, c1⟩ := c.cells; obtain ⟨z0, z1, z2, z3, z4, z5⟩ := z.facts; go_simp; (first | done | exact rfl)) (fun k0 w0 hw0 hk0 => ?_)
  simp only [List.set_cons_succ, List.set_cons_zero]
  clear hk0 hw0
  refine lin_call (i := 3) (f := 35) (args := #[.slice (some ⟨k0, 0, none⟩) 1 1]) (New.ups HU.out _ _) rfl rfl (by rfl) (fun x hx => by kernel_rfl) (by intro x hx; obtain ⟨hx, e⟩ := hx; obtain ⟨⟨hB, c⟩, z⟩ := hx; obtain ⟨c0, c1⟩ := c.cells; obtain ⟨z0, z1, z2, z3, z4, z5⟩ := z.facts; exact unk1_any _ a _ e) ?_
  simp only [List.set_cons_succ, List.set_cons_zero]
  refine lin_val (i := 4) rfl rfl (by rfl) (by intro x hx; go_simp; (first | done | exact rfl)) ?_
  simp only [List.set_cons_succ, List.set_cons_zero]
  refine lin_val (i := 5) (v := .int .u64 (tn n)) rfl rfl (by rfl) (by intro x hx; go_simp; (first | rw [back64 n] | skip); (first | done | exact rfl)) ?_
  simp only [List.set_cons_succ, List.set_cons_zero]
  refine lin_call (i := 6) (f := 36) (args := #[.int .i64 op, .bool true, .int .u64 (tn a.m), .int .u64 (tn n)]) (New.ups HU.out _ _) rfl rfl (by rfl) (fun x hx => by kernel_rfl) (by intro x hx; obtain ⟨hx, e⟩ := hx; obtain ⟨⟨hB, c⟩, z⟩ := hx; obtain ⟨c0, c1⟩ := c.cells; obtain ⟨z0, z1, z2, z3, z4, z5⟩ := z.facts; exact alu_T op a.m n _) ?_
  simp only [List.set_cons_succ, List.set_cons_zero]
  refine lin_val (i := 7) rfl rfl (by rfl) (by intro x hx; go_simp; (first | done | exact rfl)) ?_
  simp only [List.set_cons_succ, List.set_cons_zero]
  refine lin_val (i := 8) rfl rfl (by rfl) (by intro x hx; go_simp; (first | done | exact rfl)) ?_
  simp only [List.set_cons_succ, List.set_cons_zero]
  refine lin_val (i := 9) rfl rfl (by rfl) (by intro x hx; go_simp; (first | done | exact rfl)) ?_
  simp only [List.set_cons_succ, List.set_cons_zero]
  refine lin_val (i := 10) rfl rfl (by rfl) (by intro x hx; go_simp; (first | done | exact rfl)) ?_
  simp only [List.set_cons_succ, List.set_cons_zero]
  refine lin_val (i := 11) rfl rfl (by rfl) (by intro x hx; go_simp; (first | done | exact rfl)) ?_
  simp only [List.set_cons_succ, List.set_cons_zero]
  refine lin_done ?_
  intro x hx
  replace HS := hid hx.1
  clear hx
  go_upto_region 3 with fail
  refine lin_begin (OneR w a) rfl (HS.out) ?_
  refine lin_val (i := 0) rfl rfl (by rfl) (by intro x hx; go_simp; (first | done | exact rfl)) ?_
  simp only [List.set_cons_succ, List.set_cons_zero]
  refine lin_val (i := 1) rfl rfl (by rfl) (by intro x hx; go_simp; (first | done | exact rfl)) ?_
  simp only [List.set_cons_succ, List.set_cons_zero]
  refine lin_val (i := 2) rfl rfl (by rfl) (by intro x hx; go_simp; (first | done | exact rfl)) ?_
  simp only [List.set_cons_succ, List.set_cons_zero]
  refine lin_store (i := 3) (DoneR w a (shiftR op a n)) rfl rfl (by rfl) (Put2 (w.heap.size + 1) _ _) (by intro x hx; obtain ⟨⟨hB, c⟩, z⟩ := hx; obtain ⟨c0, c1⟩ := c.cells; obtain ⟨z0, z1, z2, z3, z4, z5⟩ := z.facts; (try unfold T.val); go_simp; (first | done | rfl)) (by intro x hx; exact oneR_put _ _ (shiftR op a n) _ hx) ?_
  refine lin_done ?_
  intro x hx
  obtain ⟨⟨hB, _⟩, hR⟩ := hx; obtain ⟨r0, r1⟩ := hR.cells
  go_wp2
  exact bodyPost_ret (v := .agg #[.int .u64 _, .int .u64 _]) (by simp [results, Tryd.results39, go_sem, r0, r1]) rfl ⟨rfl, hB⟩
set_option maxRecDepth 100000 in
set_option maxHeartbeats 1000000 in
theorem lsh_any (a : T) (n : BitVec 64) (w : World) :
    Calls Tryd.prog 9 #[a.val, .int .i64 n.toInt] w fun e w' => e = .returned ((shiftR 96 a n).val) ∧ Below w.heap.size w w' := by
  have HS := hid (oneR_start w a (.int .u64 0) (.int .u64 0))
  have HU := hid (oneR_ups w a)
  unfold T.val
  go_enter Tryd.func9, Tryd.ntmps9
  go_upto_region 1 with fail
  refine lin_begin (OneR w a) rfl (HS.out) ?_
  refine lin_val (i := 0) rfl rfl (by rfl) (by intro x hx; obtain ⟨⟨hB, c⟩, z⟩ := hx; obtain ⟨c0, c1⟩ := c.cells; obtain ⟨z0, z1, z2, z3, z4, z5⟩ := z.facts; go_simp; (first | done | exact rfl)) ?_
  simp only [List.set_cons_succ, List.set_cons_zero]
  refine lin_val (i := 1) rfl rfl (by rfl) (by intro x hx; go_simp; (first | done | exact rfl)) ?_
  simp only [List.set_cons_succ, List.set_cons_zero]
  refine lin_call (i := 2) (f := 39) (args := #[.int .i64 96, a.val, .int .i64 n.toInt]) HU.out rfl rfl (by rfl) (fun x hx => by kernel_rfl) (by intro x hx; obtain ⟨⟨hB, c⟩, z⟩ := hx; obtain ⟨c0, c1⟩ := c.cells; obtain ⟨z0, z1, z2, z3, z4, z5⟩ := z.facts; exact shifted_any 96 a n _) ?_
  simp only [List.set_cons_succ, List.set_cons_zero]
  refine lin_store (i := 3) (DoneR w a (shiftR 96 a n)) rfl rfl (by rfl) (Put2 (w.heap.size + 1) _ _) (by intro x hx; obtain ⟨⟨hB, c⟩, z⟩ := hx; obtain ⟨c0, c1⟩ := c.cells; obtain ⟨z0, z1, z2, z3, z4, z5⟩ := z.facts; (try unfold T.val); go_simp; (first | done | rfl)) (by intro x hx; exact oneR_put _ _ (shiftR 96 a n) _ hx) ?_
  refine lin_done ?_
  intro x hx
  obtain ⟨⟨hB, _⟩, hR⟩ := hx; obtain ⟨r0, r1⟩ := hR.cells
  go_wp2
  exact bodyPost_ret (v := .agg #[.int .u64 _, .int .u64 _]) (by simp [results, Tryd.results9, go_sem, r0, r1]) rfl ⟨rfl, hB⟩
set_option maxRecDepth 100000 in
set_option maxHeartbeats 1000000 in
theorem rsh_any (a : T) (n : BitVec 64) (w : World) :
    Calls Tryd.prog 25 #[a.val, .int .i64 n.toInt] w fun e w' => e = .returned ((shiftR 112 a n).val) ∧ Below w.heap.size w w' := by
  have HS := hid (oneR_start w a (.int .u64 0) (.int .u64 0))
  have HU := hid (oneR_ups w a)
  unfold T.val
  go_enter Tryd.func25, Tryd.ntmps25
  go_upto_region 1 with fail
  refine lin_begin (OneR w a) rfl (HS.out) ?_
  refine lin_val (i := 0) rfl rfl (by rfl) (by intro x hx; obtain ⟨⟨hB, c⟩, z⟩ := hx; obtain ⟨c0, c1⟩ := c.cells; obtain ⟨z0, z1, z2, z3, z4, z5⟩ := z.facts; go_simp; (first | done | exact rfl)) ?_
  simp only [List.set_cons_succ, List.set_cons_zero]
  refine lin_val (i := 1) rfl rfl (by rfl) (by intro x hx; go_simp; (first | done | exact rfl)) ?_
  simp only [List.set_cons_succ, List.set_cons_zero]
  refine lin_call (i := 2) (f := 39) (args := #[.int .i64 112, a.val, .int .i64 n.toInt]) HU.out rfl rfl (by rfl) (fun x hx => by kernel_rfl) (by intro x hx; obtain ⟨⟨hB, c⟩, z⟩ := hx; obtain ⟨c0, c1⟩ := c.cells; obtain ⟨z0, z1, z2, z3, z4, z5⟩ := z.facts; exact shifted_any 112 a n _) ?_
  simp only [List.set_cons_succ, List.set_cons_zero]
  refine lin_store (i := 3) (DoneR w a (shiftR 112 a n)) rfl rfl (by rfl) (Put2 (w.heap.size + 1) _ _) (by intro x hx; obtain ⟨⟨hB, c⟩, z⟩ := hx; obtain ⟨c0, c1⟩ := c.cells; obtain ⟨z0, z1, z2, z3, z4, z5⟩ := z.facts; (try unfold T.val); go_simp; (first | done | rfl)) (by intro x hx; exact oneR_put _ _ (shiftR 112 a n) _ hx) ?_
  refine lin_done ?_
  intro x hx
  obtain ⟨⟨hB, _⟩, hR⟩ := hx; obtain ⟨r0, r1⟩ := hR.cells
  go_wp2
  exact bodyPost_ret (v := .agg #[.int .u64 _, .int .u64 _]) (by simp [results, Tryd.results25, go_sem, r0, r1]) rfl ⟨rfl, hB⟩
set_option maxRecDepth 100000 in
set_option maxHeartbeats 1000000 in
theorem arsh_any (a : T) (n : BitVec 64) (w : World) :
    Calls Tryd.prog 10 #[a.val, .int .i64 n.toInt] w fun e w' => e = .returned ((shiftR 192 a n).val) ∧ Below w.heap.size w w' := by
  have HS := hid (oneR_start w a (.int .u64 0) (.int .u64 0))
  have HU := hid (oneR_ups w a)
  unfold T.val
  go_enter Tryd.func10, Tryd.ntmps10
  go_upto_region 1 with fail
  refine lin_begin (OneR w a) rfl (HS.out) ?_
  refine lin_val (i := 0) rfl rfl (by rfl) (by intro x hx; obtain ⟨⟨hB, c⟩, z⟩ := hx; obtain ⟨c0, c1⟩ := c.cells; obtain ⟨z0, z1, z2, z3, z4, z5⟩ := z.facts; go_simp; (first | done | exact rfl)) ?_
  simp only [List.set_cons_succ, List.set_cons_zero]
  refine lin_val (i := 1) rfl rfl (by rfl) (by intro x hx; go_simp; (first | done | exact rfl)) ?_
  simp only [List.set_cons_succ, List.set_cons_zero]
  refine lin_call (i := 2) (f := 39) (args := #[.int .i64 192, a.val, .int .i64 n.toInt]) HU.out rfl rfl (by rfl) (fun x hx => by kernel_rfl) (by intro x hx; obtain ⟨⟨hB, c⟩, z⟩ := hx; obtain ⟨c0, c1⟩ := c.cells; obtain ⟨z0, z1, z2, z3, z4, z5⟩ := z.facts; exact shifted_any 192 a n _) ?_
  simp only [List.set_cons_succ, List.set_cons_zero]
  refine lin_store (i := 3) (DoneR w a (shiftR 192 a n)) rfl rfl (by rfl) (Put2 (w.heap.size + 1) _ _) (by intro x hx; obtain ⟨⟨hB, c⟩, z⟩ := hx; obtain ⟨c0, c1⟩ := c.cells; obtain ⟨z0, z1, z2, z3, z4, z5⟩ := z.facts; (try unfold T.val); go_simp; (first | done | rfl)) (by intro x hx; exact oneR_put _ _ (shiftR 192 a n) _ hx) ?_
  refine lin_done ?_
  intro x hx
  obtain ⟨⟨hB, _⟩, hR⟩ := hx; obtain ⟨r0, r1⟩ := hR.cells
  go_wp2
  exact bodyPost_ret (v := .agg #[.int .u64 _, .int .u64 _]) (by simp [results, Tryd.results10, go_sem, r0, r1]) rfl ⟨rfl, hB⟩
end Go.Proofs.YtpbhfpogbndljaaDoor.Tn
