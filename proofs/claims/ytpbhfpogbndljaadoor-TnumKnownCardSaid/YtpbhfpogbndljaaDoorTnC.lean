/-
  The contracts of tnum's calls of two statements and more.
-/
import Derived.Test.YtpbhfpogbndljaaDoorTnB
import Derived.Deep.DeepCutAuto
namespace Go.Proofs.YtpbhfpogbndljaaDoor.Tn
open Go.RowKit Go.Proofs.YtpbhfpogbndljaaDoor.Num Go.Proofs.YtpbhfpogbndljaaDoor.Up
set_option maxRecDepth 100000 in
set_option maxHeartbeats 1000000 in
theorem within_any (a b : T) (w : World) :
    Calls Tryd.prog 31 #[a.val, b.val] w fun e w' => e = .returned (.bool (withinB a b)) ∧ Below w.heap.size w w' := by
  have HS := hid (two_start w a b)
  have HU := hid (two_ups w a b)
  unfold T.val
  go_enter Tryd.func31, Tryd.ntmps31
  go_wp2
  rename_i K hK
  refine up_begin (Two w a b) 10 rfl (by kernel_rfl) (two_ups w a b _ _ HS.out (Below.refl _ _).drew) ?_
  refine take_val (i := 0) HU.out rfl rfl (by kernel_rfl) (fun _ _ _ h => h) (by rfl) (by intro x hx; obtain ⟨hB, c, d⟩ := hx; obtain ⟨c0, c1⟩ := c.cells; obtain ⟨d0, d1⟩ := d.cells; go_simp; (first | done | exact rfl)) ?_
  simp only [List.set_cons_succ, List.set_cons_zero]
  refine take_val (i := 3) HU.out rfl rfl (by kernel_rfl) (fun _ _ _ h => h) (by rfl) (by intro x hx; obtain ⟨hB, c, d⟩ := hx; obtain ⟨c0, c1⟩ := c.cells; obtain ⟨d0, d1⟩ := d.cells; go_simp; (first | done | exact rfl)) ?_
  simp only [List.set_cons_succ, List.set_cons_zero]
  refine take_val (i := 5) HU.out rfl rfl (by kernel_rfl) (fun _ _ _ h => h) (by rfl) (by intro x hx; obtain ⟨hB, c, d⟩ := hx; obtain ⟨c0, c1⟩ := c.cells; obtain ⟨d0, d1⟩ := d.cells; go_simp; (first | done | exact rfl)) ?_
  simp only [List.set_cons_succ, List.set_cons_zero]
  refine take_one (i := 1) (by kernel_rfl) (step_make HU.out rfl rfl (by rfl) (.cells #[.int .u64 (tn a.v), .int .u64 (tn a.m)] 24 (0, 0)) (fun k => .slice (some ⟨k, 0, none⟩) 1 1) (by intro x hx; obtain ⟨hB, c, d⟩ := hx; obtain ⟨c0, c1⟩ := c.cells; obtain ⟨d0, d1⟩ := d.cells; go_simp; (first | done | exact rfl)) (fun k0 w0 hw0 hk0 => ?_))
  simp only [List.set_cons_succ, List.set_cons_zero]
  clear hk0 hw0
  refine take_call (i := 2) (f := 35) (args := #[.slice (some ⟨k0, 0, none⟩) 1 1]) (New.ups HU.out _ _) rfl rfl (by kernel_rfl) (fun _ _ _ h => h) (by rfl) (fun x hx => by kernel_rfl) (by intro x hx; obtain ⟨hx, e⟩ := hx; obtain ⟨hB, c, d⟩ := hx; obtain ⟨c0, c1⟩ := c.cells; obtain ⟨d0, d1⟩ := d.cells; exact unk1_any _ a _ e) ?_
  simp only [List.set_cons_succ, List.set_cons_zero]
  refine take_call (i := 4) (f := 37) (args := #[a.val]) (New.ups HU.out _ _) rfl rfl (by kernel_rfl) (fun _ _ _ h => h) (by rfl) (fun x hx => by kernel_rfl) (by intro x hx; obtain ⟨hx, e⟩ := hx; obtain ⟨hB, c, d⟩ := hx; obtain ⟨c0, c1⟩ := c.cells; obtain ⟨d0, d1⟩ := d.cells; exact least_any a _) ?_
  simp only [List.set_cons_succ, List.set_cons_zero]
  refine take_call (i := 6) (f := 37) (args := #[b.val]) (New.ups HU.out _ _) rfl rfl (by kernel_rfl) (fun _ _ _ h => h) (by rfl) (fun x hx => by kernel_rfl) (by intro x hx; obtain ⟨hx, e⟩ := hx; obtain ⟨hB, c, d⟩ := hx; obtain ⟨c0, c1⟩ := c.cells; obtain ⟨d0, d1⟩ := d.cells; exact least_any b _) ?_
  simp only [List.set_cons_succ, List.set_cons_zero]
  refine take_val (i := 7) (New.ups HU.out _ _) rfl rfl (by kernel_rfl) (fun _ _ _ h => h) (by rfl) (by intro x hx; go_simp; (first | rw [xorT] | rw [orT] | rw [andT] | rw [andNotT] | rw [addT] | rw [subT] | skip); (first | done | exact rfl)) ?_
  simp only [List.set_cons_succ, List.set_cons_zero]
  refine take_val (i := 8) (New.ups HU.out _ _) rfl rfl (by kernel_rfl) (fun _ _ _ h => h) (by rfl) (by intro x hx; go_simp; (first | rw [xorT] | rw [orT] | rw [andT] | rw [andNotT] | rw [addT] | rw [subT] | skip); (first | done | exact rfl)) ?_
  simp only [List.set_cons_succ, List.set_cons_zero]
  refine take_val (i := 9) (New.ups HU.out _ _) rfl rfl (by kernel_rfl) (fun _ _ _ h => h) (by rfl) (by intro x hx; go_simp; (first | done | exact rfl)) ?_
  simp only [List.set_cons_succ, List.set_cons_zero]
  refine take_done (by kernel_rfl) ?_ _
  intro x hx
  have HX := hid hx.1
  clear hx
  refine hK _ _ ?_
  clear hK
  refine wp_seq_k (fun K2 hK2 => ?_)
  refine lin_begin (Two w a b) rfl (HX.out) ?_
  refine lin_val (i := 0) rfl rfl (by rfl) (by intro x hx; go_simp; (first | done | exact rfl)) ?_
  simp only [List.set_cons_succ, List.set_cons_zero]
  refine lin_val (i := 1) rfl rfl (by rfl) (by intro x hx; obtain ⟨hB, c, d⟩ := hx; obtain ⟨c0, c1⟩ := c.cells; obtain ⟨d0, d1⟩ := d.cells; go_simp; (first | done | exact rfl)) ?_
  simp only [List.set_cons_succ, List.set_cons_zero]
  refine lin_make (i := 2) HU.out rfl rfl (by rfl) (.cells #[.int .u64 (tn b.v), .int .u64 (tn b.m)] 24 (0, 0)) (fun k => .slice (some ⟨k, 0, none⟩) 1 1) (by intro x hx; obtain ⟨hB, c, d⟩ := hx; obtain ⟨c0, c1⟩ := c.cells; obtain ⟨d0, d1⟩ := d.cells; go_simp; (first | done | exact rfl)) (fun k0 w0 hw0 hk0 => ?_)
  simp only [List.set_cons_succ, List.set_cons_zero]
  clear hk0 hw0
  refine lin_call (i := 3) (f := 35) (args := #[.slice (some ⟨k0, 0, none⟩) 1 1]) (New.ups HU.out _ _) rfl rfl (by rfl) (fun x hx => by kernel_rfl) (by intro x hx; obtain ⟨hx, e⟩ := hx; obtain ⟨hB, c, d⟩ := hx; obtain ⟨c0, c1⟩ := c.cells; obtain ⟨d0, d1⟩ := d.cells; exact unk1_any _ b _ e) ?_
  simp only [List.set_cons_succ, List.set_cons_zero]
  refine lin_val (i := 4) rfl rfl (by rfl) (by intro x hx; go_simp; (first | rw [xorT] | rw [orT] | rw [andT] | rw [andNotT] | rw [addT] | rw [subT] | skip); (first | done | exact rfl)) ?_
  simp only [List.set_cons_succ, List.set_cons_zero]
  refine lin_val (i := 5) (v := .bool (withinB a b)) rfl rfl (by rfl) (by intro x hx; go_simp; exact eq0T _; (first | done | exact rfl)) ?_
  simp only [List.set_cons_succ, List.set_cons_zero]
  refine lin_val (i := 6) rfl rfl (by rfl) (by intro x hx; go_simp; (first | done | exact rfl)) ?_
  simp only [List.set_cons_succ, List.set_cons_zero]
  refine lin_done ?_
  intro x hx
  obtain ⟨⟨hB, _, _⟩, _⟩ := hx
  go_wp2
  go_ret
  exact ⟨rfl, hB⟩
set_option maxRecDepth 100000 in
set_option maxHeartbeats 1000000 in
theorem in_any (a : T) (v : BitVec 64) (w : World) :
    Calls Tryd.prog 13 #[a.val, .int .u64 (tn v)] w fun e w' => e = .returned (.bool (inB a v)) ∧ Below w.heap.size w w' := by
  have HS := hid (one_start w a)
  have HU := hid (one_ups w a)
  unfold T.val
  go_enter Tryd.func13, Tryd.ntmps13
  go_wp2
  rename_i K hK
  refine up_begin (One w a) 5 rfl (by kernel_rfl) (one_ups w a _ _ HS.out (Below.refl _ _).drew) ?_
  refine take_val (i := 0) HU.out rfl rfl (by kernel_rfl) (fun _ _ _ h => h) (by rfl) (by intro x hx; go_simp; (first | done | exact rfl)) ?_
  simp only [List.set_cons_succ, List.set_cons_zero]
  refine take_call (i := 1) (f := 7) (args := #[.int .u64 (tn v)]) HU.out rfl rfl (by kernel_rfl) (fun _ _ _ h => h) (by rfl) (fun x hx => by kernel_rfl) (by intro x hx; obtain ⟨hB, c⟩ := hx; obtain ⟨c0, c1⟩ := c.cells; exact of_any v _) ?_
  simp only [List.set_cons_succ, List.set_cons_zero]
  refine take_val (i := 2) HU.out rfl rfl (by kernel_rfl) (fun _ _ _ h => h) (by rfl) (by intro x hx; obtain ⟨hB, c⟩ := hx; obtain ⟨c0, c1⟩ := c.cells; go_simp; (first | done | exact rfl)) ?_
  simp only [List.set_cons_succ, List.set_cons_zero]
  refine take_call (i := 3) (f := 31) (args := #[(ofR v).val, a.val]) HU.out rfl rfl (by kernel_rfl) (fun _ _ _ h => h) (by rfl) (fun x hx => by kernel_rfl) (by intro x hx; obtain ⟨hB, c⟩ := hx; obtain ⟨c0, c1⟩ := c.cells; exact within_any (ofR v) a _) ?_
  simp only [List.set_cons_succ, List.set_cons_zero]
  refine take_val (i := 4) HU.out rfl rfl (by kernel_rfl) (fun _ _ _ h => h) (by rfl) (by intro x hx; go_simp; (first | done | exact rfl)) ?_
  simp only [List.set_cons_succ, List.set_cons_zero]
  refine take_done (by kernel_rfl) ?_ _
  intro x hx
  obtain ⟨hB, _⟩ := hx
  go_wp2
  go_ret
  exact ⟨rfl, hB⟩
set_option maxRecDepth 100000 in
set_option maxHeartbeats 1000000 in
theorem add_any (a b : T) (w : World) :
    Calls Tryd.prog 14 #[a.val, b.val] w fun e w' => e = .returned ((addR a b).val) ∧ Below w.heap.size w w' := by
  have HS := hid (three_start w a b (.int .u64 0) (.int .u64 0))
  have HU := hid (three_ups w a b)
  unfold T.val
  go_enter Tryd.func14, Tryd.ntmps14
  go_wp2
  rename_i K hK
  refine up_begin (Three w a b) 12 rfl (by kernel_rfl) (three_ups w a b _ _ HS.out (Below.refl _ _).drew) ?_
  refine take_val (i := 0) HU.out rfl rfl (by kernel_rfl) (fun _ _ _ h => h) (by rfl) (by intro x hx; obtain ⟨⟨hB, c, d⟩, z⟩ := hx; obtain ⟨c0, c1⟩ := c.cells; obtain ⟨d0, d1⟩ := d.cells; obtain ⟨z0, z1, z2, z3, z4, z5⟩ := z.facts; go_simp; (first | done | exact rfl)) ?_
  simp only [List.set_cons_succ, List.set_cons_zero]
  refine take_call (i := 1) (f := 37) (args := #[a.val]) HU.out rfl rfl (by kernel_rfl) (fun _ _ _ h => h) (by rfl) (fun x hx => by kernel_rfl) (by intro x hx; obtain ⟨⟨hB, c, d⟩, z⟩ := hx; obtain ⟨c0, c1⟩ := c.cells; obtain ⟨d0, d1⟩ := d.cells; obtain ⟨z0, z1, z2, z3, z4, z5⟩ := z.facts; exact least_any a _) ?_
  simp only [List.set_cons_succ, List.set_cons_zero]
  refine take_val (i := 2) HU.out rfl rfl (by kernel_rfl) (fun _ _ _ h => h) (by rfl) (by intro x hx; obtain ⟨⟨hB, c, d⟩, z⟩ := hx; obtain ⟨c0, c1⟩ := c.cells; obtain ⟨d0, d1⟩ := d.cells; obtain ⟨z0, z1, z2, z3, z4, z5⟩ := z.facts; go_simp; (first | done | exact rfl)) ?_
  simp only [List.set_cons_succ, List.set_cons_zero]
  refine take_call (i := 3) (f := 37) (args := #[b.val]) HU.out rfl rfl (by kernel_rfl) (fun _ _ _ h => h) (by rfl) (fun x hx => by kernel_rfl) (by intro x hx; obtain ⟨⟨hB, c, d⟩, z⟩ := hx; obtain ⟨c0, c1⟩ := c.cells; obtain ⟨d0, d1⟩ := d.cells; obtain ⟨z0, z1, z2, z3, z4, z5⟩ := z.facts; exact least_any b _) ?_
  simp only [List.set_cons_succ, List.set_cons_zero]
  refine take_val (i := 4) HU.out rfl rfl (by kernel_rfl) (fun _ _ _ h => h) (by rfl) (by intro x hx; go_simp; (first | rw [xorT] | rw [orT] | rw [andT] | rw [andNotT] | rw [addT] | rw [subT] | skip); (first | done | exact rfl)) ?_
  simp only [List.set_cons_succ, List.set_cons_zero]
  refine take_val (i := 5) HU.out rfl rfl (by kernel_rfl) (fun _ _ _ h => h) (by rfl) (by intro x hx; obtain ⟨⟨hB, c, d⟩, z⟩ := hx; obtain ⟨c0, c1⟩ := c.cells; obtain ⟨d0, d1⟩ := d.cells; obtain ⟨z0, z1, z2, z3, z4, z5⟩ := z.facts; go_simp; (first | done | exact rfl)) ?_
  simp only [List.set_cons_succ, List.set_cons_zero]
  refine take_call (i := 6) (f := 40) (args := #[a.val]) HU.out rfl rfl (by kernel_rfl) (fun _ _ _ h => h) (by rfl) (fun x hx => by kernel_rfl) (by intro x hx; obtain ⟨⟨hB, c, d⟩, z⟩ := hx; obtain ⟨c0, c1⟩ := c.cells; obtain ⟨d0, d1⟩ := d.cells; obtain ⟨z0, z1, z2, z3, z4, z5⟩ := z.facts; exact most_any a _) ?_
  simp only [List.set_cons_succ, List.set_cons_zero]
  refine take_val (i := 7) HU.out rfl rfl (by kernel_rfl) (fun _ _ _ h => h) (by rfl) (by intro x hx; obtain ⟨⟨hB, c, d⟩, z⟩ := hx; obtain ⟨c0, c1⟩ := c.cells; obtain ⟨d0, d1⟩ := d.cells; obtain ⟨z0, z1, z2, z3, z4, z5⟩ := z.facts; go_simp; (first | done | exact rfl)) ?_
  simp only [List.set_cons_succ, List.set_cons_zero]
  refine take_call (i := 8) (f := 40) (args := #[b.val]) HU.out rfl rfl (by kernel_rfl) (fun _ _ _ h => h) (by rfl) (fun x hx => by kernel_rfl) (by intro x hx; obtain ⟨⟨hB, c, d⟩, z⟩ := hx; obtain ⟨c0, c1⟩ := c.cells; obtain ⟨d0, d1⟩ := d.cells; obtain ⟨z0, z1, z2, z3, z4, z5⟩ := z.facts; exact most_any b _) ?_
  simp only [List.set_cons_succ, List.set_cons_zero]
  refine take_val (i := 9) HU.out rfl rfl (by kernel_rfl) (fun _ _ _ h => h) (by rfl) (by intro x hx; go_simp; (first | rw [xorT] | rw [orT] | rw [andT] | rw [andNotT] | rw [addT] | rw [subT] | skip); (first | done | exact rfl)) ?_
  simp only [List.set_cons_succ, List.set_cons_zero]
  refine take_val (i := 10) HU.out rfl rfl (by kernel_rfl) (fun _ _ _ h => h) (by rfl) (by intro x hx; go_simp; (first | done | exact rfl)) ?_
  simp only [List.set_cons_succ, List.set_cons_zero]
  refine take_val (i := 11) HU.out rfl rfl (by kernel_rfl) (fun _ _ _ h => h) (by rfl) (by intro x hx; go_simp; (first | done | exact rfl)) ?_
  simp only [List.set_cons_succ, List.set_cons_zero]
  refine take_done (by kernel_rfl) ?_ _
  intro x hx
  have HX := hid hx
  clear hx
  refine hK _ _ ?_
  clear hK
  refine wp_seq_k (fun K2 hK2 => ?_)
  refine lin_begin (Three w a b) rfl (HX.out) ?_
  refine lin_val (i := 0) rfl rfl (by rfl) (by intro x hx; go_simp; (first | done | exact rfl)) ?_
  simp only [List.set_cons_succ, List.set_cons_zero]
  refine lin_val (i := 1) rfl rfl (by rfl) (by intro x hx; obtain ⟨⟨hB, c, d⟩, z⟩ := hx; obtain ⟨c0, c1⟩ := c.cells; obtain ⟨d0, d1⟩ := d.cells; obtain ⟨z0, z1, z2, z3, z4, z5⟩ := z.facts; go_simp; (first | done | exact rfl)) ?_
  simp only [List.set_cons_succ, List.set_cons_zero]
  refine lin_val (i := 2) rfl rfl (by rfl) (by intro x hx; obtain ⟨⟨hB, c, d⟩, z⟩ := hx; obtain ⟨c0, c1⟩ := c.cells; obtain ⟨d0, d1⟩ := d.cells; obtain ⟨z0, z1, z2, z3, z4, z5⟩ := z.facts; go_simp; (first | done | exact rfl)) ?_
  simp only [List.set_cons_succ, List.set_cons_zero]
  refine lin_make (i := 3) HU.out rfl rfl (by rfl) (.cells #[.int .u64 (tn a.v), .int .u64 (tn a.m), .int .u64 (tn b.v), .int .u64 (tn b.m)] 24 (0, 0)) (fun k => .slice (some ⟨k, 0, none⟩) 2 2) (by intro x hx; obtain ⟨⟨hB, c, d⟩, z⟩ := hx; obtain ⟨c0, c1⟩ := c.cells; obtain ⟨d0, d1⟩ := d.cells; obtain ⟨z0, z1, z2, z3, z4, z5⟩ := z.facts; go_simp; (first | done | exact rfl)) (fun k0 w0 hw0 hk0 => ?_)
  simp only [List.set_cons_succ, List.set_cons_zero]
  have n0 := three_lt hw0 hk0
  clear hk0 hw0
  refine lin_call (i := 4) (f := 35) (args := #[.slice (some ⟨k0, 0, none⟩) 2 2]) (New.ups HU.out _ _) rfl rfl (by rfl) (fun x hx => by kernel_rfl) (by intro x hx; obtain ⟨hx, e⟩ := hx; obtain ⟨⟨hB, c, d⟩, z⟩ := hx; obtain ⟨c0, c1⟩ := c.cells; obtain ⟨d0, d1⟩ := d.cells; obtain ⟨z0, z1, z2, z3, z4, z5⟩ := z.facts; exact unk2_any _ a b _ e (Array.getElem?_eq_some_iff.1 e).1) ?_
  simp only [List.set_cons_succ, List.set_cons_zero]
  refine lin_val (i := 5) rfl rfl (by rfl) (by intro x hx; go_simp; (first | done | exact rfl)) ?_
  simp only [List.set_cons_succ, List.set_cons_zero]
  refine lin_val (i := 6) rfl rfl (by rfl) (by intro x hx; go_simp; (first | done | exact rfl)) ?_
  simp only [List.set_cons_succ, List.set_cons_zero]
  refine lin_val (i := 7) rfl rfl (by rfl) (by intro x hx; go_simp; (first | rw [xorT] | rw [orT] | rw [andT] | rw [andNotT] | rw [addT] | rw [subT] | skip); (first | done | exact rfl)) ?_
  simp only [List.set_cons_succ, List.set_cons_zero]
  refine lin_val (i := 8) rfl rfl (by rfl) (by intro x hx; go_simp; (first | rw [xorT] | rw [orT] | rw [andT] | rw [andNotT] | rw [addT] | rw [subT] | skip); (first | done | exact rfl)) ?_
  simp only [List.set_cons_succ, List.set_cons_zero]
  refine lin_call (i := 9) (f := 41) (args := #[.int .u64 (tn (a.lo + b.lo)), .int .u64 (tn (a.m ||| b.m ||| ((a.lo + b.lo) ^^^ (a.hi + b.hi))))]) (New.ups HU.out _ _) rfl rfl (by rfl) (fun x hx => by kernel_rfl) (by intro x hx; obtain ⟨hx, e⟩ := hx; obtain ⟨⟨hB, c, d⟩, z⟩ := hx; obtain ⟨c0, c1⟩ := c.cells; obtain ⟨d0, d1⟩ := d.cells; obtain ⟨z0, z1, z2, z3, z4, z5⟩ := z.facts; exact except_any _ _ _) ?_
  simp only [List.set_cons_succ, List.set_cons_zero]
  refine lin_store (i := 10) (New (Done w a b (addR a b)) k0 (.cells #[.int .u64 (tn a.v), .int .u64 (tn a.m), .int .u64 (tn b.v), .int .u64 (tn b.m)] 24 (0, 0))) rfl rfl (by rfl) (Put2 (w.heap.size + 2) _ _) (by intro x hx; obtain ⟨hx, e⟩ := hx; obtain ⟨⟨hB, c, d⟩, z⟩ := hx; obtain ⟨c0, c1⟩ := c.cells; obtain ⟨d0, d1⟩ := d.cells; obtain ⟨z0, z1, z2, z3, z4, z5⟩ := z.facts; (try unfold T.val); go_simp; (first | done | rfl)) (by intro x hx; exact three_put1 (addR a b) hx n0) ?_
  refine lin_done ?_
  intro x hx
  obtain ⟨⟨⟨hB, _, _⟩, hR⟩, _⟩ := hx; obtain ⟨r0, r1⟩ := hR.cells
  go_wp2
  exact bodyPost_ret (v := .agg #[.int .u64 _, .int .u64 _]) (by simp [results, Tryd.results14, go_sem, r0, r1]) rfl ⟨rfl, hB⟩
set_option maxRecDepth 100000 in
set_option maxHeartbeats 1000000 in
theorem sub_any (a b : T) (w : World) :
    Calls Tryd.prog 11 #[a.val, b.val] w fun e w' => e = .returned ((subR a b).val) ∧ Below w.heap.size w w' := by
  have HS := hid (three_start w a b (.int .u64 0) (.int .u64 0))
  have HU := hid (three_ups w a b)
  unfold T.val
  go_enter Tryd.func11, Tryd.ntmps11
  go_wp2
  rename_i K hK
  refine up_begin (Three w a b) 12 rfl (by kernel_rfl) (three_ups w a b _ _ HS.out (Below.refl _ _).drew) ?_
  refine take_val (i := 0) HU.out rfl rfl (by kernel_rfl) (fun _ _ _ h => h) (by rfl) (by intro x hx; obtain ⟨⟨hB, c, d⟩, z⟩ := hx; obtain ⟨c0, c1⟩ := c.cells; obtain ⟨d0, d1⟩ := d.cells; obtain ⟨z0, z1, z2, z3, z4, z5⟩ := z.facts; go_simp; (first | done | exact rfl)) ?_
  simp only [List.set_cons_succ, List.set_cons_zero]
  refine take_call (i := 1) (f := 37) (args := #[a.val]) HU.out rfl rfl (by kernel_rfl) (fun _ _ _ h => h) (by rfl) (fun x hx => by kernel_rfl) (by intro x hx; obtain ⟨⟨hB, c, d⟩, z⟩ := hx; obtain ⟨c0, c1⟩ := c.cells; obtain ⟨d0, d1⟩ := d.cells; obtain ⟨z0, z1, z2, z3, z4, z5⟩ := z.facts; exact least_any a _) ?_
  simp only [List.set_cons_succ, List.set_cons_zero]
  refine take_val (i := 2) HU.out rfl rfl (by kernel_rfl) (fun _ _ _ h => h) (by rfl) (by intro x hx; obtain ⟨⟨hB, c, d⟩, z⟩ := hx; obtain ⟨c0, c1⟩ := c.cells; obtain ⟨d0, d1⟩ := d.cells; obtain ⟨z0, z1, z2, z3, z4, z5⟩ := z.facts; go_simp; (first | done | exact rfl)) ?_
  simp only [List.set_cons_succ, List.set_cons_zero]
  refine take_call (i := 3) (f := 40) (args := #[b.val]) HU.out rfl rfl (by kernel_rfl) (fun _ _ _ h => h) (by rfl) (fun x hx => by kernel_rfl) (by intro x hx; obtain ⟨⟨hB, c, d⟩, z⟩ := hx; obtain ⟨c0, c1⟩ := c.cells; obtain ⟨d0, d1⟩ := d.cells; obtain ⟨z0, z1, z2, z3, z4, z5⟩ := z.facts; exact most_any b _) ?_
  simp only [List.set_cons_succ, List.set_cons_zero]
  refine take_val (i := 4) HU.out rfl rfl (by kernel_rfl) (fun _ _ _ h => h) (by rfl) (by intro x hx; go_simp; (first | rw [xorT] | rw [orT] | rw [andT] | rw [andNotT] | rw [addT] | rw [subT] | skip); (first | done | exact rfl)) ?_
  simp only [List.set_cons_succ, List.set_cons_zero]
  refine take_val (i := 5) HU.out rfl rfl (by kernel_rfl) (fun _ _ _ h => h) (by rfl) (by intro x hx; obtain ⟨⟨hB, c, d⟩, z⟩ := hx; obtain ⟨c0, c1⟩ := c.cells; obtain ⟨d0, d1⟩ := d.cells; obtain ⟨z0, z1, z2, z3, z4, z5⟩ := z.facts; go_simp; (first | done | exact rfl)) ?_
  simp only [List.set_cons_succ, List.set_cons_zero]
  refine take_call (i := 6) (f := 40) (args := #[a.val]) HU.out rfl rfl (by kernel_rfl) (fun _ _ _ h => h) (by rfl) (fun x hx => by kernel_rfl) (by intro x hx; obtain ⟨⟨hB, c, d⟩, z⟩ := hx; obtain ⟨c0, c1⟩ := c.cells; obtain ⟨d0, d1⟩ := d.cells; obtain ⟨z0, z1, z2, z3, z4, z5⟩ := z.facts; exact most_any a _) ?_
  simp only [List.set_cons_succ, List.set_cons_zero]
  refine take_val (i := 7) HU.out rfl rfl (by kernel_rfl) (fun _ _ _ h => h) (by rfl) (by intro x hx; obtain ⟨⟨hB, c, d⟩, z⟩ := hx; obtain ⟨c0, c1⟩ := c.cells; obtain ⟨d0, d1⟩ := d.cells; obtain ⟨z0, z1, z2, z3, z4, z5⟩ := z.facts; go_simp; (first | done | exact rfl)) ?_
  simp only [List.set_cons_succ, List.set_cons_zero]
  refine take_call (i := 8) (f := 37) (args := #[b.val]) HU.out rfl rfl (by kernel_rfl) (fun _ _ _ h => h) (by rfl) (fun x hx => by kernel_rfl) (by intro x hx; obtain ⟨⟨hB, c, d⟩, z⟩ := hx; obtain ⟨c0, c1⟩ := c.cells; obtain ⟨d0, d1⟩ := d.cells; obtain ⟨z0, z1, z2, z3, z4, z5⟩ := z.facts; exact least_any b _) ?_
  simp only [List.set_cons_succ, List.set_cons_zero]
  refine take_val (i := 9) HU.out rfl rfl (by kernel_rfl) (fun _ _ _ h => h) (by rfl) (by intro x hx; go_simp; (first | rw [xorT] | rw [orT] | rw [andT] | rw [andNotT] | rw [addT] | rw [subT] | skip); (first | done | exact rfl)) ?_
  simp only [List.set_cons_succ, List.set_cons_zero]
  refine take_val (i := 10) HU.out rfl rfl (by kernel_rfl) (fun _ _ _ h => h) (by rfl) (by intro x hx; go_simp; (first | done | exact rfl)) ?_
  simp only [List.set_cons_succ, List.set_cons_zero]
  refine take_val (i := 11) HU.out rfl rfl (by kernel_rfl) (fun _ _ _ h => h) (by rfl) (by intro x hx; go_simp; (first | done | exact rfl)) ?_
  simp only [List.set_cons_succ, List.set_cons_zero]
  refine take_done (by kernel_rfl) ?_ _
  intro x hx
  have HX := hid hx
  clear hx
  refine hK _ _ ?_
  clear hK
  refine wp_seq_k (fun K2 hK2 => ?_)
  refine lin_begin (Three w a b) rfl (HX.out) ?_
  refine lin_val (i := 0) rfl rfl (by rfl) (by intro x hx; go_simp; (first | done | exact rfl)) ?_
  simp only [List.set_cons_succ, List.set_cons_zero]
  refine lin_val (i := 1) rfl rfl (by rfl) (by intro x hx; obtain ⟨⟨hB, c, d⟩, z⟩ := hx; obtain ⟨c0, c1⟩ := c.cells; obtain ⟨d0, d1⟩ := d.cells; obtain ⟨z0, z1, z2, z3, z4, z5⟩ := z.facts; go_simp; (first | done | exact rfl)) ?_
  simp only [List.set_cons_succ, List.set_cons_zero]
  refine lin_val (i := 2) rfl rfl (by rfl) (by intro x hx; obtain ⟨⟨hB, c, d⟩, z⟩ := hx; obtain ⟨c0, c1⟩ := c.cells; obtain ⟨d0, d1⟩ := d.cells; obtain ⟨z0, z1, z2, z3, z4, z5⟩ := z.facts; go_simp; (first | done | exact rfl)) ?_
  simp only [List.set_cons_succ, List.set_cons_zero]
  refine lin_make (i := 3) HU.out rfl rfl (by rfl) (.cells #[.int .u64 (tn a.v), .int .u64 (tn a.m), .int .u64 (tn b.v), .int .u64 (tn b.m)] 24 (0, 0)) (fun k => .slice (some ⟨k, 0, none⟩) 2 2) (by intro x hx; obtain ⟨⟨hB, c, d⟩, z⟩ := hx; obtain ⟨c0, c1⟩ := c.cells; obtain ⟨d0, d1⟩ := d.cells; obtain ⟨z0, z1, z2, z3, z4, z5⟩ := z.facts; go_simp; (first | done | exact rfl)) (fun k0 w0 hw0 hk0 => ?_)
  simp only [List.set_cons_succ, List.set_cons_zero]
  have n0 := three_lt hw0 hk0
  clear hk0 hw0
  refine lin_call (i := 4) (f := 35) (args := #[.slice (some ⟨k0, 0, none⟩) 2 2]) (New.ups HU.out _ _) rfl rfl (by rfl) (fun x hx => by kernel_rfl) (by intro x hx; obtain ⟨hx, e⟩ := hx; obtain ⟨⟨hB, c, d⟩, z⟩ := hx; obtain ⟨c0, c1⟩ := c.cells; obtain ⟨d0, d1⟩ := d.cells; obtain ⟨z0, z1, z2, z3, z4, z5⟩ := z.facts; exact unk2_any _ a b _ e (Array.getElem?_eq_some_iff.1 e).1) ?_
  simp only [List.set_cons_succ, List.set_cons_zero]
  refine lin_val (i := 5) rfl rfl (by rfl) (by intro x hx; go_simp; (first | done | exact rfl)) ?_
  simp only [List.set_cons_succ, List.set_cons_zero]
  refine lin_val (i := 6) rfl rfl (by rfl) (by intro x hx; go_simp; (first | done | exact rfl)) ?_
  simp only [List.set_cons_succ, List.set_cons_zero]
  refine lin_val (i := 7) rfl rfl (by rfl) (by intro x hx; go_simp; (first | rw [xorT] | rw [orT] | rw [andT] | rw [andNotT] | rw [addT] | rw [subT] | skip); (first | done | exact rfl)) ?_
  simp only [List.set_cons_succ, List.set_cons_zero]
  refine lin_val (i := 8) rfl rfl (by rfl) (by intro x hx; go_simp; (first | rw [xorT] | rw [orT] | rw [andT] | rw [andNotT] | rw [addT] | rw [subT] | skip); (first | done | exact rfl)) ?_
  simp only [List.set_cons_succ, List.set_cons_zero]
  refine lin_call (i := 9) (f := 41) (args := #[.int .u64 (tn (a.lo - b.hi)), .int .u64 (tn (a.m ||| b.m ||| ((a.lo - b.hi) ^^^ (a.hi - b.lo))))]) (New.ups HU.out _ _) rfl rfl (by rfl) (fun x hx => by kernel_rfl) (by intro x hx; obtain ⟨hx, e⟩ := hx; obtain ⟨⟨hB, c, d⟩, z⟩ := hx; obtain ⟨c0, c1⟩ := c.cells; obtain ⟨d0, d1⟩ := d.cells; obtain ⟨z0, z1, z2, z3, z4, z5⟩ := z.facts; exact except_any _ _ _) ?_
  simp only [List.set_cons_succ, List.set_cons_zero]
  refine lin_store (i := 10) (New (Done w a b (subR a b)) k0 (.cells #[.int .u64 (tn a.v), .int .u64 (tn a.m), .int .u64 (tn b.v), .int .u64 (tn b.m)] 24 (0, 0))) rfl rfl (by rfl) (Put2 (w.heap.size + 2) _ _) (by intro x hx; obtain ⟨hx, e⟩ := hx; obtain ⟨⟨hB, c, d⟩, z⟩ := hx; obtain ⟨c0, c1⟩ := c.cells; obtain ⟨d0, d1⟩ := d.cells; obtain ⟨z0, z1, z2, z3, z4, z5⟩ := z.facts; (try unfold T.val); go_simp; (first | done | rfl)) (by intro x hx; exact three_put1 (subR a b) hx n0) ?_
  refine lin_done ?_
  intro x hx
  obtain ⟨⟨⟨hB, _, _⟩, hR⟩, _⟩ := hx; obtain ⟨r0, r1⟩ := hR.cells
  go_wp2
  exact bodyPost_ret (v := .agg #[.int .u64 _, .int .u64 _]) (by simp [results, Tryd.results11, go_sem, r0, r1]) rfl ⟨rfl, hB⟩
set_option maxRecDepth 100000 in
set_option maxHeartbeats 1000000 in
theorem meet_any (a b : T) (w : World) :
    Calls Tryd.prog 28 #[a.val, b.val] w fun e w' => e = .returned (.tuple #[(meetR a b).val, .bool (!noneB a b)]) ∧ Below w.heap.size w w' := by
  have HS := hid (three_start w a b (.int .u64 0) (.int .u64 0))
  have HU := hid (three_ups w a b)
  unfold T.val
  go_enter Tryd.func28, Tryd.ntmps28
  go_wp2
  rename_i K hK
  refine up_begin (Three w a b) 12 rfl (by kernel_rfl) (three_ups w a b _ _ HS.out (Below.refl _ _).drew) ?_
  refine take_val (i := 0) HU.out rfl rfl (by kernel_rfl) (fun _ _ _ h => h) (by rfl) (by intro x hx; obtain ⟨⟨hB, c, d⟩, z⟩ := hx; obtain ⟨c0, c1⟩ := c.cells; obtain ⟨d0, d1⟩ := d.cells; obtain ⟨z0, z1, z2, z3, z4, z5⟩ := z.facts; go_simp; (first | done | exact rfl)) ?_
  simp only [List.set_cons_succ, List.set_cons_zero]
  refine take_call (i := 1) (f := 37) (args := #[a.val]) HU.out rfl rfl (by kernel_rfl) (fun _ _ _ h => h) (by rfl) (fun x hx => by kernel_rfl) (by intro x hx; obtain ⟨⟨hB, c, d⟩, z⟩ := hx; obtain ⟨c0, c1⟩ := c.cells; obtain ⟨d0, d1⟩ := d.cells; obtain ⟨z0, z1, z2, z3, z4, z5⟩ := z.facts; exact least_any a _) ?_
  simp only [List.set_cons_succ, List.set_cons_zero]
  refine take_val (i := 2) HU.out rfl rfl (by kernel_rfl) (fun _ _ _ h => h) (by rfl) (by intro x hx; obtain ⟨⟨hB, c, d⟩, z⟩ := hx; obtain ⟨c0, c1⟩ := c.cells; obtain ⟨d0, d1⟩ := d.cells; obtain ⟨z0, z1, z2, z3, z4, z5⟩ := z.facts; go_simp; (first | done | exact rfl)) ?_
  simp only [List.set_cons_succ, List.set_cons_zero]
  refine take_call (i := 3) (f := 37) (args := #[b.val]) HU.out rfl rfl (by kernel_rfl) (fun _ _ _ h => h) (by rfl) (fun x hx => by kernel_rfl) (by intro x hx; obtain ⟨⟨hB, c, d⟩, z⟩ := hx; obtain ⟨c0, c1⟩ := c.cells; obtain ⟨d0, d1⟩ := d.cells; obtain ⟨z0, z1, z2, z3, z4, z5⟩ := z.facts; exact least_any b _) ?_
  simp only [List.set_cons_succ, List.set_cons_zero]
  refine take_val (i := 4) HU.out rfl rfl (by kernel_rfl) (fun _ _ _ h => h) (by rfl) (by intro x hx; go_simp; (first | rw [xorT] | rw [orT] | rw [andT] | rw [andNotT] | rw [addT] | rw [subT] | skip); (first | done | exact rfl)) ?_
  simp only [List.set_cons_succ, List.set_cons_zero]
  refine take_val (i := 5) HU.out rfl rfl (by kernel_rfl) (fun _ _ _ h => h) (by rfl) (by intro x hx; obtain ⟨⟨hB, c, d⟩, z⟩ := hx; obtain ⟨c0, c1⟩ := c.cells; obtain ⟨d0, d1⟩ := d.cells; obtain ⟨z0, z1, z2, z3, z4, z5⟩ := z.facts; go_simp; (first | done | exact rfl)) ?_
  simp only [List.set_cons_succ, List.set_cons_zero]
  refine take_call (i := 6) (f := 40) (args := #[a.val]) HU.out rfl rfl (by kernel_rfl) (fun _ _ _ h => h) (by rfl) (fun x hx => by kernel_rfl) (by intro x hx; obtain ⟨⟨hB, c, d⟩, z⟩ := hx; obtain ⟨c0, c1⟩ := c.cells; obtain ⟨d0, d1⟩ := d.cells; obtain ⟨z0, z1, z2, z3, z4, z5⟩ := z.facts; exact most_any a _) ?_
  simp only [List.set_cons_succ, List.set_cons_zero]
  refine take_val (i := 7) HU.out rfl rfl (by kernel_rfl) (fun _ _ _ h => h) (by rfl) (by intro x hx; obtain ⟨⟨hB, c, d⟩, z⟩ := hx; obtain ⟨c0, c1⟩ := c.cells; obtain ⟨d0, d1⟩ := d.cells; obtain ⟨z0, z1, z2, z3, z4, z5⟩ := z.facts; go_simp; (first | done | exact rfl)) ?_
  simp only [List.set_cons_succ, List.set_cons_zero]
  refine take_call (i := 8) (f := 40) (args := #[b.val]) HU.out rfl rfl (by kernel_rfl) (fun _ _ _ h => h) (by rfl) (fun x hx => by kernel_rfl) (by intro x hx; obtain ⟨⟨hB, c, d⟩, z⟩ := hx; obtain ⟨c0, c1⟩ := c.cells; obtain ⟨d0, d1⟩ := d.cells; obtain ⟨z0, z1, z2, z3, z4, z5⟩ := z.facts; exact most_any b _) ?_
  simp only [List.set_cons_succ, List.set_cons_zero]
  refine take_val (i := 9) HU.out rfl rfl (by kernel_rfl) (fun _ _ _ h => h) (by rfl) (by intro x hx; go_simp; (first | rw [xorT] | rw [orT] | rw [andT] | rw [andNotT] | rw [addT] | rw [subT] | skip); (first | done | exact rfl)) ?_
  simp only [List.set_cons_succ, List.set_cons_zero]
  refine take_val (i := 10) HU.out rfl rfl (by kernel_rfl) (fun _ _ _ h => h) (by rfl) (by intro x hx; go_simp; (first | done | exact rfl)) ?_
  simp only [List.set_cons_succ, List.set_cons_zero]
  refine take_val (i := 11) HU.out rfl rfl (by kernel_rfl) (fun _ _ _ h => h) (by rfl) (by intro x hx; go_simp; (first | done | exact rfl)) ?_
  simp only [List.set_cons_succ, List.set_cons_zero]
  refine take_done (by kernel_rfl) ?_ _
  intro x hx
  have HX := hid hx
  clear hx
  refine hK _ _ ?_
  clear hK
  refine wp_seq_k (fun K2 hK2 => ?_)
  refine wp_seq_k (fun K3 hK3 => ?_)
  refine lin_begin (Three w a b) rfl (HX.out) ?_
  refine lin_val (i := 0) rfl rfl (by rfl) (by intro x hx; go_simp; (first | done | exact rfl)) ?_
  simp only [List.set_cons_succ, List.set_cons_zero]
  refine lin_val (i := 1) rfl rfl (by rfl) (by intro x hx; go_simp; (first | done | exact rfl)) ?_
  simp only [List.set_cons_succ, List.set_cons_zero]
  refine lin_val (i := 2) rfl rfl (by rfl) (by intro x hx; go_simp; (first | rw [xorT] | rw [orT] | rw [andT] | rw [andNotT] | rw [addT] | rw [subT] | skip); (first | done | exact rfl)) ?_
  simp only [List.set_cons_succ, List.set_cons_zero]
  refine lin_val (i := 3) (v := .bool (noneB a b)) rfl rfl (by rfl) (by intro x hx; go_simp; exact neq0T _; (first | done | exact rfl)) ?_
  simp only [List.set_cons_succ, List.set_cons_zero]
  refine lin_done ?_
  intro x hx
  have HX2 := hid hx
  clear hx
  obtain ⟨⟨hB, _, _⟩, z⟩ := HX2.out
  obtain ⟨z0, z1, z2, z3, z4, z5⟩ := z.facts
  refine hK3 _ _ ?_
  clear hK3
  cases hn : noneB a b
  · have HM := hid (show meetR a b = betweenR (a.lo ||| b.lo) (a.hi &&& b.hi) by unfold meetR; rw [hn]; rfl)
    have HN := hid hn
    go_upto_region 4 with fail
    clear hn z0 z1 z2 z3 z4 z5 z hB
    refine lin_begin (Three w a b) rfl (HX2.out) ?_
    refine lin_val (i := 0) rfl rfl (by rfl) (by intro x hx; go_simp; (first | done | exact rfl)) ?_
    simp only [List.set_cons_succ, List.set_cons_zero]
    refine lin_val (i := 1) rfl rfl (by rfl) (by intro x hx; go_simp; (first | done | exact rfl)) ?_
    simp only [List.set_cons_succ, List.set_cons_zero]
    refine lin_call (i := 2) (f := 42) (args := #[.int .u64 (tn (a.lo ||| b.lo)), .int .u64 (tn (a.hi &&& b.hi))]) HU.out rfl rfl (by rfl) (fun x hx => by kernel_rfl) (by intro x hx; obtain ⟨⟨hB, c, d⟩, z⟩ := hx; obtain ⟨c0, c1⟩ := c.cells; obtain ⟨d0, d1⟩ := d.cells; obtain ⟨z0, z1, z2, z3, z4, z5⟩ := z.facts; exact between_any _ _ _) ?_
    simp only [List.set_cons_succ, List.set_cons_zero]
    refine lin_store (i := 3) (Done w a b (betweenR (a.lo ||| b.lo) (a.hi &&& b.hi))) rfl rfl (by rfl) (Put2 (w.heap.size + 2) _ _) (by intro x hx; obtain ⟨⟨hB, c, d⟩, z⟩ := hx; obtain ⟨c0, c1⟩ := c.cells; obtain ⟨d0, d1⟩ := d.cells; obtain ⟨z0, z1, z2, z3, z4, z5⟩ := z.facts; (try unfold T.val); go_simp; (first | done | rfl)) (by intro x hx; exact three_put _ _ _ (betweenR (a.lo ||| b.lo) (a.hi &&& b.hi)) _ hx) ?_
    refine lin_val (i := 4) rfl rfl (by rfl) (by intro x hx; go_simp; (first | done | exact rfl)) ?_
    simp only [List.set_cons_succ, List.set_cons_zero]
    refine lin_done ?_
    intro x hx
    obtain ⟨⟨hB, _, _⟩, hR⟩ := hx; obtain ⟨r0, r1⟩ := hR.cells
    go_wp2
    exact bodyPost_ret (v := .tuple #[.agg #[.int .u64 _, .int .u64 _], .bool true]) (by simp [results, Tryd.results28, go_sem, r0, r1]; try exact ⟨rfl, rfl⟩) rfl ⟨by rw [HM.out, HN.out]; rfl, hB⟩
  · have HM := hid (show meetR a b = ⟨0#64, 0#64⟩ by unfold meetR; rw [hn]; rfl)
    have HN := hid hn
    go_upto_region 3 with fail
    clear hn z0 z1 z2 z3 z4 z5 z hB
    refine lin_begin (Three w a b) rfl (HX2.out) ?_
    refine lin_val (i := 0) rfl rfl (by rfl) (by intro x hx; go_simp; (first | done | exact rfl)) ?_
    simp only [List.set_cons_succ, List.set_cons_zero]
    refine lin_store (i := 1) (Done w a b (⟨0#64, 0#64⟩)) rfl rfl (by rfl) (Put2 (w.heap.size + 2) _ _) (by intro x hx; obtain ⟨⟨hB, c, d⟩, z⟩ := hx; obtain ⟨c0, c1⟩ := c.cells; obtain ⟨d0, d1⟩ := d.cells; obtain ⟨z0, z1, z2, z3, z4, z5⟩ := z.facts; (try unfold T.val); go_simp; (first | done | rfl)) (by intro x hx; exact three_put _ _ _ (⟨0#64, 0#64⟩) _ hx) ?_
    refine lin_val (i := 2) rfl rfl (by rfl) (by intro x hx; go_simp; (first | done | exact rfl)) ?_
    simp only [List.set_cons_succ, List.set_cons_zero]
    refine lin_done ?_
    intro x hx
    obtain ⟨⟨hB, _, _⟩, hR⟩ := hx; obtain ⟨r0, r1⟩ := hR.cells
    go_wp2
    exact bodyPost_ret (v := .tuple #[.agg #[.int .u64 _, .int .u64 _], .bool false]) (by simp [results, Tryd.results28, go_sem, r0, r1]; try exact ⟨rfl, rfl⟩) rfl ⟨by rw [HM.out, HN.out]; rfl, hB⟩
end Go.Proofs.YtpbhfpogbndljaaDoor.Tn
