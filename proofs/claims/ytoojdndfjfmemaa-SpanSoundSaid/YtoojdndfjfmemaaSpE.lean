/-
  The contracts of what leans on plain facts.
-/
import Derived.Deep.DeepCutAuto
import Derived.Test.YtoojdndfjfmemaaSpN
namespace Go.Proofs.Ytoojdndfjfmemaa.Sp
open Go.RowKit Go.Proofs.Ytoojdndfjfmemaa.Num Go.Proofs.Ytoojdndfjfmemaa.Up
set_option maxRecDepth 100000 in
set_option maxHeartbeats 1000000 in
theorem span_ones_any (x0 : BitVec 64)  (w : World) :
    Calls Try.prog 94 #[.int .u64 (tn (x0))] w fun e w' => e = .returned (.int .u64 (tn (((1#64 <<< (bits_Len64 x0).toNat) - 1#64)))) ∧ Below w.heap.size w w' := by
  go_enter Try.func94, Try.ntmps94
  have HS := hid (st_nil w)
  -- region 1
  go_upto_region 1 with fail
  refine lin_begin (St w []) rfl HS.out ?_
  refine lin_val (i := 0) (v := .int .u64 (tn (x0))) rfl rfl (by rfl) (by intro x hx; go_simp; (first | done | exact rfl)) ?_
  simp only [List.set_cons_succ, List.set_cons_zero]
  refine lin_call (i := 1) (f := 117) (args := #[.int .u64 (tn (x0))]) (v := .int .i64 (ti (bits_Len64 x0))) (st_ups _ _) rfl rfl (by rfl) (fun x hx => by kernel_rfl) (by intro x hx; exact bits_Len64_any x0 _) ?_
  simp only [List.set_cons_succ, List.set_cons_zero]
  refine lin_val (i := 2) (v := .int .u64 (tn (1#64 <<< (bits_Len64 x0).toNat))) rfl rfl (by rfl) (by intro x hx; have hy := len_nn x0; go_simp; (first | done | exact shl1I (bits_Len64 x0) hy | exact shlUI 1#64 (bits_Len64 x0) hy | exact congrArg _ (shlUI 1#64 (bits_Len64 x0) hy) | (rw [shlUI 1#64 (bits_Len64 x0) hy]; done) | (rw [shlUI 1#64 (bits_Len64 x0) hy]; rfl))) ?_
  simp only [List.set_cons_succ, List.set_cons_zero]
  refine lin_val (i := 3) (v := .int .u64 (tn ((1#64 <<< (bits_Len64 x0).toNat) - 1#64))) rfl rfl (by rfl) (by intro x hx; go_simp; (first | done | exact subUT (1#64 <<< (bits_Len64 x0).toNat) 1#64 | exact congrArg _ (subUT (1#64 <<< (bits_Len64 x0).toNat) 1#64) | (rw [subUT (1#64 <<< (bits_Len64 x0).toNat) 1#64]; done) | (rw [subUT (1#64 <<< (bits_Len64 x0).toNat) 1#64]; rfl))) ?_
  simp only [List.set_cons_succ, List.set_cons_zero]
  refine lin_val (i := 4) (v := .int .u64 (tn ((1#64 <<< (bits_Len64 x0).toNat) - 1#64))) rfl rfl (by rfl) (by intro x hx; go_simp; (first | done | exact rfl)) ?_
  simp only [List.set_cons_succ, List.set_cons_zero]
  refine lin_done ?_
  intro W1 hx
  replace HS := hid hx
  clear hx
  go_wp2
  exact bodyPost_ret (v := .int .u64 (tn ((1#64 <<< (bits_Len64 x0).toNat) - 1#64))) (by simp [results, Try.results94, go_sem]) rfl ⟨rfl, HS.out.below⟩
set_option maxRecDepth 100000 in
set_option maxHeartbeats 1000000 in
theorem span_Or_any (x0 : P) (x1 : P)  (w : World) :
    Calls Try.prog 37 #[.agg #[.int .u64 (tn (x0.lo)), .int .u64 (tn (x0.hi))], .agg #[.int .u64 (tn (x1.lo)), .int .u64 (tn (x1.hi))]] w fun e w' => e = .returned (.agg #[.int .u64 (tn (maxU x0.lo x1.lo)), .int .u64 (tn (onesV (maxU x0.hi x1.hi)))]) ∧ Below w.heap.size w w' := by
  go_enter Try.func37, Try.ntmps37
  have HS := hid ((((st_nil w).alloc (k := w.heap.size) rfl [.int .u64 (tn (x0.lo)), .int .u64 (tn (x0.hi))] 24).alloc (k := w.heap.size + 1) (by simp) [.int .u64 (tn (x1.lo)), .int .u64 (tn (x1.hi))] 24).alloc (k := w.heap.size + 2) (by simp) [.int .u64 0, .int .u64 0] 24)
  -- region 1
  go_upto_region 1 with fail
  refine up_begin (St w [⟨w.heap.size, [some (.int .u64 (tn (x0.lo))), some (.int .u64 (tn (x0.hi)))], 24⟩, ⟨w.heap.size + 1, [some (.int .u64 (tn (x1.lo))), some (.int .u64 (tn (x1.hi)))], 24⟩, ⟨w.heap.size + 2, [none, none], 24⟩]) 13 rfl (by kernel_rfl) (St.less HS.out.drew (less_cons rfl rfl (lessC_eq (lessC_eq (trivial))) (less_cons rfl rfl (lessC_eq (lessC_eq (trivial))) (less_cons rfl rfl (lessC_no (lessC_no (trivial))) (trivial))))) ?_
  refine take_val (i := 0) (v := .pointer (some ⟨w.heap.size, 0, none⟩)) (st_ups _ _) rfl rfl (by kernel_rfl) (fun _ _ _ h => h) (by rfl) (by intro x hx; go_simp; (first | done | exact rfl)) ?_
  simp only [List.set_cons_succ, List.set_cons_zero]
  refine take_val (i := 1) (v := .int .u64 (tn (x0.lo))) (st_ups _ _) rfl rfl (by kernel_rfl) (fun _ _ _ h => h) (by rfl) (by intro x hx; have f0 := hx.load 0 0 rfl rfl; go_simp; (first | done | exact rfl)) ?_
  simp only [List.set_cons_succ, List.set_cons_zero]
  refine take_val (i := 2) (v := .pointer (some ⟨w.heap.size + 1, 0, none⟩)) (st_ups _ _) rfl rfl (by kernel_rfl) (fun _ _ _ h => h) (by rfl) (by intro x hx; go_simp; (first | done | exact rfl)) ?_
  simp only [List.set_cons_succ, List.set_cons_zero]
  refine take_val (i := 3) (v := .int .u64 (tn (x1.lo))) (st_ups _ _) rfl rfl (by kernel_rfl) (fun _ _ _ h => h) (by rfl) (by intro x hx; have f0 := hx.load 1 0 rfl rfl; go_simp; (first | done | exact rfl)) ?_
  simp only [List.set_cons_succ, List.set_cons_zero]
  refine take_val (i := 4) (v := .int .u64 (tn (maxU x0.lo x1.lo))) (st_ups _ _) rfl rfl (by kernel_rfl) (fun _ _ _ h => h) (by rfl) (by intro x hx; go_simp; (first | done | exact maxUT x0.lo x1.lo)) ?_
  simp only [List.set_cons_succ, List.set_cons_zero]
  refine take_val (i := 5) (v := .pointer (some ⟨w.heap.size, 1, none⟩)) (st_ups _ _) rfl rfl (by kernel_rfl) (fun _ _ _ h => h) (by rfl) (by intro x hx; go_simp; (first | done | exact rfl)) ?_
  simp only [List.set_cons_succ, List.set_cons_zero]
  refine take_val (i := 6) (v := .int .u64 (tn (x0.hi))) (st_ups _ _) rfl rfl (by kernel_rfl) (fun _ _ _ h => h) (by rfl) (by intro x hx; have f0 := hx.load 0 1 rfl rfl; go_simp; (first | done | exact rfl)) ?_
  simp only [List.set_cons_succ, List.set_cons_zero]
  refine take_val (i := 7) (v := .pointer (some ⟨w.heap.size + 1, 1, none⟩)) (st_ups _ _) rfl rfl (by kernel_rfl) (fun _ _ _ h => h) (by rfl) (by intro x hx; go_simp; (first | done | exact rfl)) ?_
  simp only [List.set_cons_succ, List.set_cons_zero]
  refine take_val (i := 8) (v := .int .u64 (tn (x1.hi))) (st_ups _ _) rfl rfl (by kernel_rfl) (fun _ _ _ h => h) (by rfl) (by intro x hx; have f0 := hx.load 1 1 rfl rfl; go_simp; (first | done | exact rfl)) ?_
  simp only [List.set_cons_succ, List.set_cons_zero]
  refine take_val (i := 9) (v := .int .u64 (tn (maxU x0.hi x1.hi))) (st_ups _ _) rfl rfl (by kernel_rfl) (fun _ _ _ h => h) (by rfl) (by intro x hx; go_simp; (first | done | exact maxUT x0.hi x1.hi)) ?_
  simp only [List.set_cons_succ, List.set_cons_zero]
  refine take_call (i := 10) (f := 94) (args := #[.int .u64 (tn (maxU x0.hi x1.hi))]) (v := .int .u64 (tn (onesV (maxU x0.hi x1.hi)))) (st_ups _ _) rfl rfl (by kernel_rfl) (fun _ _ _ h => h) (by rfl) (fun x hx => by kernel_rfl) (by intro x hx; exact calls_is (span_ones_any (maxU x0.hi x1.hi) _) (by first | rw [ones_is] | exact congrArg (fun v => Value.int .u64 (tn v)) (ones_is _))) ?_
  simp only [List.set_cons_succ, List.set_cons_zero]
  refine take_val (i := 11) (v := .agg #[.int .u64 (tn (maxU x0.lo x1.lo)), .int .u64 (tn (onesV (maxU x0.hi x1.hi)))]) (st_ups _ _) rfl rfl (by kernel_rfl) (fun _ _ _ h => h) (by rfl) (by intro x hx; go_simp; (first | done | exact rfl)) ?_
  simp only [List.set_cons_succ, List.set_cons_zero]
  refine take_one (i := 12) (by kernel_rfl) (step_store (St w [⟨w.heap.size, [some (.int .u64 (tn (x0.lo))), some (.int .u64 (tn (x0.hi)))], 24⟩, ⟨w.heap.size + 1, [some (.int .u64 (tn (x1.lo))), some (.int .u64 (tn (x1.hi)))], 24⟩, ⟨w.heap.size + 2, [some (.int .u64 (tn (maxU x0.lo x1.lo))), some (.int .u64 (tn (onesV (maxU x0.hi x1.hi))))], 24⟩]) (st_ups _ _) (fun x h => h.less (less_cons rfl rfl (lessC_eq (lessC_eq (trivial))) (less_cons rfl rfl (lessC_eq (lessC_eq (trivial))) (less_cons rfl rfl (lessC_no (lessC_no (trivial))) (trivial))))) rfl rfl (by rfl) (fun x => ((x.setCell ⟨w.heap.size + 2, 0, none⟩ (.int .u64 (tn (maxU x0.lo x1.lo)))).setCell ⟨w.heap.size + 2, 1, none⟩ (.int .u64 (tn (onesV (maxU x0.hi x1.hi)))))) (by intro x hx; obtain ⟨u0, z0⟩ := hx.has 2 0 rfl (by simp); have q0 := hx.soft 2 0 rfl; obtain ⟨u1, z1⟩ := hx.has 2 1 rfl (by simp); have q1 := hx.soft 2 1 rfl; go_simp; (first | done | rfl)) (fun x hx => ((hx.put 2 0 (.int .u64 (tn (maxU x0.lo x1.lo))) rfl).put 2 1 (.int .u64 (tn (onesV (maxU x0.hi x1.hi)))) rfl)) ?_)
  refine take_done (by kernel_rfl) ?_ _
  intro W1 hx
  replace HS := hid hx
  clear hx
  go_wp2
  have r0 := HS.out.load 2 0 rfl rfl
  have r1 := HS.out.load 2 1 rfl rfl
  exact bodyPost_ret (v := .agg #[.int .u64 (tn (maxU x0.lo x1.lo)), .int .u64 (tn (onesV (maxU x0.hi x1.hi)))]) (by simp [results, Try.results37, go_sem, r0, r1]) rfl ⟨rfl, HS.out.below⟩
set_option maxRecDepth 100000 in
set_option maxHeartbeats 1000000 in
theorem span_Xor_any (x0 : P) (x1 : P)  (w : World) :
    Calls Try.prog 39 #[.agg #[.int .u64 (tn (x0.lo)), .int .u64 (tn (x0.hi))], .agg #[.int .u64 (tn (x1.lo)), .int .u64 (tn (x1.hi))]] w fun e w' => e = .returned (.agg #[.int .u64 (tn (0#64)), .int .u64 (tn (onesV (maxU x0.hi x1.hi)))]) ∧ Below w.heap.size w w' := by
  go_enter Try.func39, Try.ntmps39
  have HS := hid ((((st_nil w).alloc (k := w.heap.size) rfl [.int .u64 (tn (x0.lo)), .int .u64 (tn (x0.hi))] 24).alloc (k := w.heap.size + 1) (by simp) [.int .u64 (tn (x1.lo)), .int .u64 (tn (x1.hi))] 24).alloc (k := w.heap.size + 2) (by simp) [.int .u64 0, .int .u64 0] 24)
  -- region 1
  go_upto_region 1 with fail
  refine lin_begin (St w [⟨w.heap.size, [some (.int .u64 (tn (x0.lo))), some (.int .u64 (tn (x0.hi)))], 24⟩, ⟨w.heap.size + 1, [some (.int .u64 (tn (x1.lo))), some (.int .u64 (tn (x1.hi)))], 24⟩, ⟨w.heap.size + 2, [some (.int .u64 0), some (.int .u64 0)], 24⟩]) rfl HS.out ?_
  refine lin_val (i := 0) (v := .pointer (some ⟨w.heap.size, 1, none⟩)) rfl rfl (by rfl) (by intro x hx; go_simp; (first | done | exact rfl)) ?_
  simp only [List.set_cons_succ, List.set_cons_zero]
  refine lin_val (i := 1) (v := .int .u64 (tn (x0.hi))) rfl rfl (by rfl) (by intro x hx; have f0 := hx.load 0 1 rfl rfl; go_simp; (first | done | exact rfl)) ?_
  simp only [List.set_cons_succ, List.set_cons_zero]
  refine lin_val (i := 2) (v := .pointer (some ⟨w.heap.size + 1, 1, none⟩)) rfl rfl (by rfl) (by intro x hx; go_simp; (first | done | exact rfl)) ?_
  simp only [List.set_cons_succ, List.set_cons_zero]
  refine lin_val (i := 3) (v := .int .u64 (tn (x1.hi))) rfl rfl (by rfl) (by intro x hx; have f0 := hx.load 1 1 rfl rfl; go_simp; (first | done | exact rfl)) ?_
  simp only [List.set_cons_succ, List.set_cons_zero]
  refine lin_val (i := 4) (v := .int .u64 (tn (maxU x0.hi x1.hi))) rfl rfl (by rfl) (by intro x hx; go_simp; (first | done | exact maxUT x0.hi x1.hi)) ?_
  simp only [List.set_cons_succ, List.set_cons_zero]
  refine lin_call (i := 5) (f := 94) (args := #[.int .u64 (tn (maxU x0.hi x1.hi))]) (v := .int .u64 (tn (onesV (maxU x0.hi x1.hi)))) (st_ups _ _) rfl rfl (by rfl) (fun x hx => by kernel_rfl) (by intro x hx; exact calls_is (span_ones_any (maxU x0.hi x1.hi) _) (by first | rw [ones_is] | exact congrArg (fun v => Value.int .u64 (tn v)) (ones_is _))) ?_
  simp only [List.set_cons_succ, List.set_cons_zero]
  refine lin_val (i := 6) (v := .agg #[.int .u64 0, .int .u64 (tn (onesV (maxU x0.hi x1.hi)))]) rfl rfl (by rfl) (by intro x hx; go_simp; (first | done | exact rfl)) ?_
  simp only [List.set_cons_succ, List.set_cons_zero]
  refine lin_store (i := 7) (St w [⟨w.heap.size, [some (.int .u64 (tn (x0.lo))), some (.int .u64 (tn (x0.hi)))], 24⟩, ⟨w.heap.size + 1, [some (.int .u64 (tn (x1.lo))), some (.int .u64 (tn (x1.hi)))], 24⟩, ⟨w.heap.size + 2, [some (.int .u64 0), some (.int .u64 (tn (onesV (maxU x0.hi x1.hi))))], 24⟩]) rfl rfl (by rfl) (fun x => ((x.setCell ⟨w.heap.size + 2, 0, none⟩ (.int .u64 0)).setCell ⟨w.heap.size + 2, 1, none⟩ (.int .u64 (tn (onesV (maxU x0.hi x1.hi)))))) (by intro x hx; obtain ⟨u0, z0⟩ := hx.has 2 0 rfl (by simp); have q0 := hx.soft 2 0 rfl; obtain ⟨u1, z1⟩ := hx.has 2 1 rfl (by simp); have q1 := hx.soft 2 1 rfl; go_simp; (first | done | rfl)) (fun x hx => ((hx.put 2 0 (.int .u64 0) rfl).put 2 1 (.int .u64 (tn (onesV (maxU x0.hi x1.hi)))) rfl)) ?_
  refine lin_done ?_
  intro W1 hx
  replace HS := hid hx
  clear hx
  go_wp2
  have r0 := HS.out.load 2 0 rfl rfl
  have r1 := HS.out.load 2 1 rfl rfl
  exact bodyPost_ret (v := .agg #[.int .u64 0, .int .u64 (tn (onesV (maxU x0.hi x1.hi)))]) (by simp [results, Try.results39, go_sem, r0, r1]) rfl ⟨rfl, HS.out.below⟩
set_option maxRecDepth 100000 in
set_option maxHeartbeats 1000000 in
theorem span_Bits_any (x0 : P)  (w : World) :
    Calls Try.prog 70 #[.agg #[.int .u64 (tn (x0.lo)), .int .u64 (tn (x0.hi))]] w fun e w' => e = .returned (.agg #[.int .u64 (tn (x0.lo &&& ~~~(onesV (x0.lo ^^^ x0.hi)))), .int .u64 (tn (onesV (x0.lo ^^^ x0.hi)))]) ∧ Below w.heap.size w w' := by
  go_enter Try.func70, Try.ntmps70
  have HS := hid (((st_nil w).alloc (k := w.heap.size) rfl [.int .u64 (tn (x0.lo)), .int .u64 (tn (x0.hi))] 24).alloc (k := w.heap.size + 1) (by simp) [.int .u64 0, .int .u64 0] 51)
  -- region 1
  go_upto_region 1 with fail
  refine lin_begin (St w [⟨w.heap.size, [some (.int .u64 (tn (x0.lo))), some (.int .u64 (tn (x0.hi)))], 24⟩, ⟨w.heap.size + 1, [some (.int .u64 0), some (.int .u64 0)], 51⟩]) rfl HS.out ?_
  refine lin_val (i := 0) (v := .pointer (some ⟨w.heap.size, 0, none⟩)) rfl rfl (by rfl) (by intro x hx; go_simp; (first | done | exact rfl)) ?_
  simp only [List.set_cons_succ, List.set_cons_zero]
  refine lin_val (i := 1) (v := .int .u64 (tn (x0.lo))) rfl rfl (by rfl) (by intro x hx; have f0 := hx.load 0 0 rfl rfl; go_simp; (first | done | exact rfl)) ?_
  simp only [List.set_cons_succ, List.set_cons_zero]
  refine lin_val (i := 2) (v := .pointer (some ⟨w.heap.size, 1, none⟩)) rfl rfl (by rfl) (by intro x hx; go_simp; (first | done | exact rfl)) ?_
  simp only [List.set_cons_succ, List.set_cons_zero]
  refine lin_val (i := 3) (v := .int .u64 (tn (x0.hi))) rfl rfl (by rfl) (by intro x hx; have f0 := hx.load 0 1 rfl rfl; go_simp; (first | done | exact rfl)) ?_
  simp only [List.set_cons_succ, List.set_cons_zero]
  refine lin_val (i := 4) (v := .int .u64 (tn (x0.lo ^^^ x0.hi))) rfl rfl (by rfl) (by intro x hx; go_simp; (first | done | exact xorUT x0.lo x0.hi | exact congrArg _ (xorUT x0.lo x0.hi) | (rw [xorUT x0.lo x0.hi]; done) | (rw [xorUT x0.lo x0.hi]; rfl))) ?_
  simp only [List.set_cons_succ, List.set_cons_zero]
  refine lin_call (i := 5) (f := 94) (args := #[.int .u64 (tn (x0.lo ^^^ x0.hi))]) (v := .int .u64 (tn (onesV (x0.lo ^^^ x0.hi)))) (st_ups _ _) rfl rfl (by rfl) (fun x hx => by kernel_rfl) (by intro x hx; exact calls_is (span_ones_any (x0.lo ^^^ x0.hi) _) (by first | rw [ones_is] | exact congrArg (fun v => Value.int .u64 (tn v)) (ones_is _))) ?_
  simp only [List.set_cons_succ, List.set_cons_zero]
  refine lin_val (i := 6) (v := .int .u64 (tn (onesV (x0.lo ^^^ x0.hi)))) rfl rfl (by rfl) (by intro x hx; go_simp; (first | done | exact rfl)) ?_
  simp only [List.set_cons_succ, List.set_cons_zero]
  refine lin_done ?_
  intro W1 hx
  replace HS := hid hx
  clear hx
  -- region 2
  go_upto_region 2 with fail
  refine lin_begin (St w [⟨w.heap.size, [some (.int .u64 (tn (x0.lo))), some (.int .u64 (tn (x0.hi)))], 24⟩, ⟨w.heap.size + 1, [some (.int .u64 0), some (.int .u64 0)], 51⟩]) rfl HS.out ?_
  refine lin_val (i := 0) (v := .pointer (some ⟨w.heap.size, 0, none⟩)) rfl rfl (by rfl) (by intro x hx; go_simp; (first | done | exact rfl)) ?_
  simp only [List.set_cons_succ, List.set_cons_zero]
  refine lin_val (i := 1) (v := .int .u64 (tn (x0.lo))) rfl rfl (by rfl) (by intro x hx; have f0 := hx.load 0 0 rfl rfl; go_simp; (first | done | exact rfl)) ?_
  simp only [List.set_cons_succ, List.set_cons_zero]
  refine lin_val (i := 2) (v := .int .u64 (tn (onesV (x0.lo ^^^ x0.hi)))) rfl rfl (by rfl) (by intro x hx; go_simp; (first | done | exact rfl)) ?_
  simp only [List.set_cons_succ, List.set_cons_zero]
  refine lin_val (i := 3) (v := .int .u64 (tn (x0.lo &&& ~~~(onesV (x0.lo ^^^ x0.hi))))) rfl rfl (by rfl) (by intro x hx; go_simp; (first | done | exact andNotUT x0.lo (onesV (x0.lo ^^^ x0.hi)) | exact congrArg _ (andNotUT x0.lo (onesV (x0.lo ^^^ x0.hi))) | (rw [andNotUT x0.lo (onesV (x0.lo ^^^ x0.hi))]; done) | (rw [andNotUT x0.lo (onesV (x0.lo ^^^ x0.hi))]; rfl))) ?_
  simp only [List.set_cons_succ, List.set_cons_zero]
  refine lin_val (i := 4) (v := .int .u64 (tn (onesV (x0.lo ^^^ x0.hi)))) rfl rfl (by rfl) (by intro x hx; go_simp; (first | done | exact rfl)) ?_
  simp only [List.set_cons_succ, List.set_cons_zero]
  refine lin_val (i := 5) (v := .agg #[.int .u64 (tn (x0.lo &&& ~~~(onesV (x0.lo ^^^ x0.hi)))), .int .u64 (tn (onesV (x0.lo ^^^ x0.hi)))]) rfl rfl (by rfl) (by intro x hx; go_simp; (first | done | exact rfl)) ?_
  simp only [List.set_cons_succ, List.set_cons_zero]
  refine lin_store (i := 6) (St w [⟨w.heap.size, [some (.int .u64 (tn (x0.lo))), some (.int .u64 (tn (x0.hi)))], 24⟩, ⟨w.heap.size + 1, [some (.int .u64 (tn (x0.lo &&& ~~~(onesV (x0.lo ^^^ x0.hi))))), some (.int .u64 (tn (onesV (x0.lo ^^^ x0.hi))))], 51⟩]) rfl rfl (by rfl) (fun x => ((x.setCell ⟨w.heap.size + 1, 0, none⟩ (.int .u64 (tn (x0.lo &&& ~~~(onesV (x0.lo ^^^ x0.hi)))))).setCell ⟨w.heap.size + 1, 1, none⟩ (.int .u64 (tn (onesV (x0.lo ^^^ x0.hi)))))) (by intro x hx; obtain ⟨u0, z0⟩ := hx.has 1 0 rfl (by simp); have q0 := hx.soft 1 0 rfl; obtain ⟨u1, z1⟩ := hx.has 1 1 rfl (by simp); have q1 := hx.soft 1 1 rfl; go_simp; (first | done | rfl)) (fun x hx => ((hx.put 1 0 (.int .u64 (tn (x0.lo &&& ~~~(onesV (x0.lo ^^^ x0.hi))))) rfl).put 1 1 (.int .u64 (tn (onesV (x0.lo ^^^ x0.hi)))) rfl)) ?_
  refine lin_done ?_
  intro W2 hx
  replace HS := hid hx
  clear hx
  go_wp2
  have r0 := HS.out.load 1 0 rfl rfl
  have r1 := HS.out.load 1 1 rfl rfl
  exact bodyPost_ret (v := .agg #[.int .u64 (tn (x0.lo &&& ~~~(onesV (x0.lo ^^^ x0.hi)))), .int .u64 (tn (onesV (x0.lo ^^^ x0.hi)))]) (by simp [results, Try.results70, go_sem, r0, r1]) rfl ⟨rfl, HS.out.below⟩
set_option maxRecDepth 100000 in
set_option maxHeartbeats 1000000 in
theorem ref_Or_any (x0 : P) (x1 : P)  (w : World) :
    Calls Try.prog 38 #[.agg #[.int .u64 (tn (x0.lo)), .int .u64 (tn (x0.hi))], .agg #[.int .u64 (tn (x1.lo)), .int .u64 (tn (x1.hi))]] w fun e w' => e = .returned (.agg #[.int .u64 (tn (maxU x0.lo x1.lo)), .int .u64 (tn (onesV (maxU x0.hi x1.hi)))]) ∧ Below w.heap.size w w' := by
  go_enter Try.func38, Try.ntmps38
  have HS := hid ((((st_nil w).alloc (k := w.heap.size) rfl [.int .u64 (tn (x0.lo)), .int .u64 (tn (x0.hi))] 24).alloc (k := w.heap.size + 1) (by simp) [.int .u64 (tn (x1.lo)), .int .u64 (tn (x1.hi))] 24).alloc (k := w.heap.size + 2) (by simp) [.int .u64 0, .int .u64 0] 24)
  -- region 1
  go_upto_region 1 with fail
  refine up_begin (St w [⟨w.heap.size, [some (.int .u64 (tn (x0.lo))), some (.int .u64 (tn (x0.hi)))], 24⟩, ⟨w.heap.size + 1, [some (.int .u64 (tn (x1.lo))), some (.int .u64 (tn (x1.hi)))], 24⟩, ⟨w.heap.size + 2, [none, none], 24⟩]) 13 rfl (by kernel_rfl) (St.less HS.out.drew (less_cons rfl rfl (lessC_eq (lessC_eq (trivial))) (less_cons rfl rfl (lessC_eq (lessC_eq (trivial))) (less_cons rfl rfl (lessC_no (lessC_no (trivial))) (trivial))))) ?_
  refine take_val (i := 0) (v := .pointer (some ⟨w.heap.size, 0, none⟩)) (st_ups _ _) rfl rfl (by kernel_rfl) (fun _ _ _ h => h) (by rfl) (by intro x hx; go_simp; (first | done | exact rfl)) ?_
  simp only [List.set_cons_succ, List.set_cons_zero]
  refine take_val (i := 1) (v := .int .u64 (tn (x0.lo))) (st_ups _ _) rfl rfl (by kernel_rfl) (fun _ _ _ h => h) (by rfl) (by intro x hx; have f0 := hx.load 0 0 rfl rfl; go_simp; (first | done | exact rfl)) ?_
  simp only [List.set_cons_succ, List.set_cons_zero]
  refine take_val (i := 2) (v := .pointer (some ⟨w.heap.size + 1, 0, none⟩)) (st_ups _ _) rfl rfl (by kernel_rfl) (fun _ _ _ h => h) (by rfl) (by intro x hx; go_simp; (first | done | exact rfl)) ?_
  simp only [List.set_cons_succ, List.set_cons_zero]
  refine take_val (i := 3) (v := .int .u64 (tn (x1.lo))) (st_ups _ _) rfl rfl (by kernel_rfl) (fun _ _ _ h => h) (by rfl) (by intro x hx; have f0 := hx.load 1 0 rfl rfl; go_simp; (first | done | exact rfl)) ?_
  simp only [List.set_cons_succ, List.set_cons_zero]
  refine take_val (i := 4) (v := .int .u64 (tn (maxU x0.lo x1.lo))) (st_ups _ _) rfl rfl (by kernel_rfl) (fun _ _ _ h => h) (by rfl) (by intro x hx; go_simp; (first | done | exact maxUT x0.lo x1.lo)) ?_
  simp only [List.set_cons_succ, List.set_cons_zero]
  refine take_val (i := 5) (v := .pointer (some ⟨w.heap.size, 1, none⟩)) (st_ups _ _) rfl rfl (by kernel_rfl) (fun _ _ _ h => h) (by rfl) (by intro x hx; go_simp; (first | done | exact rfl)) ?_
  simp only [List.set_cons_succ, List.set_cons_zero]
  refine take_val (i := 6) (v := .int .u64 (tn (x0.hi))) (st_ups _ _) rfl rfl (by kernel_rfl) (fun _ _ _ h => h) (by rfl) (by intro x hx; have f0 := hx.load 0 1 rfl rfl; go_simp; (first | done | exact rfl)) ?_
  simp only [List.set_cons_succ, List.set_cons_zero]
  refine take_val (i := 7) (v := .pointer (some ⟨w.heap.size + 1, 1, none⟩)) (st_ups _ _) rfl rfl (by kernel_rfl) (fun _ _ _ h => h) (by rfl) (by intro x hx; go_simp; (first | done | exact rfl)) ?_
  simp only [List.set_cons_succ, List.set_cons_zero]
  refine take_val (i := 8) (v := .int .u64 (tn (x1.hi))) (st_ups _ _) rfl rfl (by kernel_rfl) (fun _ _ _ h => h) (by rfl) (by intro x hx; have f0 := hx.load 1 1 rfl rfl; go_simp; (first | done | exact rfl)) ?_
  simp only [List.set_cons_succ, List.set_cons_zero]
  refine take_val (i := 9) (v := .int .u64 (tn (maxU x0.hi x1.hi))) (st_ups _ _) rfl rfl (by kernel_rfl) (fun _ _ _ h => h) (by rfl) (by intro x hx; go_simp; (first | done | exact maxUT x0.hi x1.hi)) ?_
  simp only [List.set_cons_succ, List.set_cons_zero]
  refine take_call (i := 10) (f := 95) (args := #[.int .u64 (tn (maxU x0.hi x1.hi))]) (v := .int .u64 (tn (onesV (maxU x0.hi x1.hi)))) (st_ups _ _) rfl rfl (by kernel_rfl) (fun _ _ _ h => h) (by rfl) (fun x hx => by kernel_rfl) (by intro x hx; exact ref_Ones_any (maxU x0.hi x1.hi) _) ?_
  simp only [List.set_cons_succ, List.set_cons_zero]
  refine take_val (i := 11) (v := .agg #[.int .u64 (tn (maxU x0.lo x1.lo)), .int .u64 (tn (onesV (maxU x0.hi x1.hi)))]) (st_ups _ _) rfl rfl (by kernel_rfl) (fun _ _ _ h => h) (by rfl) (by intro x hx; go_simp; (first | done | exact rfl)) ?_
  simp only [List.set_cons_succ, List.set_cons_zero]
  refine take_one (i := 12) (by kernel_rfl) (step_store (St w [⟨w.heap.size, [some (.int .u64 (tn (x0.lo))), some (.int .u64 (tn (x0.hi)))], 24⟩, ⟨w.heap.size + 1, [some (.int .u64 (tn (x1.lo))), some (.int .u64 (tn (x1.hi)))], 24⟩, ⟨w.heap.size + 2, [some (.int .u64 (tn (maxU x0.lo x1.lo))), some (.int .u64 (tn (onesV (maxU x0.hi x1.hi))))], 24⟩]) (st_ups _ _) (fun x h => h.less (less_cons rfl rfl (lessC_eq (lessC_eq (trivial))) (less_cons rfl rfl (lessC_eq (lessC_eq (trivial))) (less_cons rfl rfl (lessC_no (lessC_no (trivial))) (trivial))))) rfl rfl (by rfl) (fun x => ((x.setCell ⟨w.heap.size + 2, 0, none⟩ (.int .u64 (tn (maxU x0.lo x1.lo)))).setCell ⟨w.heap.size + 2, 1, none⟩ (.int .u64 (tn (onesV (maxU x0.hi x1.hi)))))) (by intro x hx; obtain ⟨u0, z0⟩ := hx.has 2 0 rfl (by simp); have q0 := hx.soft 2 0 rfl; obtain ⟨u1, z1⟩ := hx.has 2 1 rfl (by simp); have q1 := hx.soft 2 1 rfl; go_simp; (first | done | rfl)) (fun x hx => ((hx.put 2 0 (.int .u64 (tn (maxU x0.lo x1.lo))) rfl).put 2 1 (.int .u64 (tn (onesV (maxU x0.hi x1.hi)))) rfl)) ?_)
  refine take_done (by kernel_rfl) ?_ _
  intro W1 hx
  replace HS := hid hx
  clear hx
  go_wp2
  have r0 := HS.out.load 2 0 rfl rfl
  have r1 := HS.out.load 2 1 rfl rfl
  exact bodyPost_ret (v := .agg #[.int .u64 (tn (maxU x0.lo x1.lo)), .int .u64 (tn (onesV (maxU x0.hi x1.hi)))]) (by simp [results, Try.results38, go_sem, r0, r1]) rfl ⟨rfl, HS.out.below⟩
set_option maxRecDepth 100000 in
set_option maxHeartbeats 1000000 in
theorem ref_Xor_any (x0 : P) (x1 : P)  (w : World) :
    Calls Try.prog 40 #[.agg #[.int .u64 (tn (x0.lo)), .int .u64 (tn (x0.hi))], .agg #[.int .u64 (tn (x1.lo)), .int .u64 (tn (x1.hi))]] w fun e w' => e = .returned (.agg #[.int .u64 (tn (0#64)), .int .u64 (tn (onesV (maxU x0.hi x1.hi)))]) ∧ Below w.heap.size w w' := by
  go_enter Try.func40, Try.ntmps40
  have HS := hid ((((st_nil w).alloc (k := w.heap.size) rfl [.int .u64 (tn (x0.lo)), .int .u64 (tn (x0.hi))] 24).alloc (k := w.heap.size + 1) (by simp) [.int .u64 (tn (x1.lo)), .int .u64 (tn (x1.hi))] 24).alloc (k := w.heap.size + 2) (by simp) [.int .u64 0, .int .u64 0] 24)
  -- region 1
  go_upto_region 1 with fail
  refine lin_begin (St w [⟨w.heap.size, [some (.int .u64 (tn (x0.lo))), some (.int .u64 (tn (x0.hi)))], 24⟩, ⟨w.heap.size + 1, [some (.int .u64 (tn (x1.lo))), some (.int .u64 (tn (x1.hi)))], 24⟩, ⟨w.heap.size + 2, [some (.int .u64 0), some (.int .u64 0)], 24⟩]) rfl HS.out ?_
  refine lin_val (i := 0) (v := .pointer (some ⟨w.heap.size, 1, none⟩)) rfl rfl (by rfl) (by intro x hx; go_simp; (first | done | exact rfl)) ?_
  simp only [List.set_cons_succ, List.set_cons_zero]
  refine lin_val (i := 1) (v := .int .u64 (tn (x0.hi))) rfl rfl (by rfl) (by intro x hx; have f0 := hx.load 0 1 rfl rfl; go_simp; (first | done | exact rfl)) ?_
  simp only [List.set_cons_succ, List.set_cons_zero]
  refine lin_val (i := 2) (v := .pointer (some ⟨w.heap.size + 1, 1, none⟩)) rfl rfl (by rfl) (by intro x hx; go_simp; (first | done | exact rfl)) ?_
  simp only [List.set_cons_succ, List.set_cons_zero]
  refine lin_val (i := 3) (v := .int .u64 (tn (x1.hi))) rfl rfl (by rfl) (by intro x hx; have f0 := hx.load 1 1 rfl rfl; go_simp; (first | done | exact rfl)) ?_
  simp only [List.set_cons_succ, List.set_cons_zero]
  refine lin_val (i := 4) (v := .int .u64 (tn (maxU x0.hi x1.hi))) rfl rfl (by rfl) (by intro x hx; go_simp; (first | done | exact maxUT x0.hi x1.hi)) ?_
  simp only [List.set_cons_succ, List.set_cons_zero]
  refine lin_call (i := 5) (f := 95) (args := #[.int .u64 (tn (maxU x0.hi x1.hi))]) (v := .int .u64 (tn (onesV (maxU x0.hi x1.hi)))) (st_ups _ _) rfl rfl (by rfl) (fun x hx => by kernel_rfl) (by intro x hx; exact ref_Ones_any (maxU x0.hi x1.hi) _) ?_
  simp only [List.set_cons_succ, List.set_cons_zero]
  refine lin_val (i := 6) (v := .agg #[.int .u64 0, .int .u64 (tn (onesV (maxU x0.hi x1.hi)))]) rfl rfl (by rfl) (by intro x hx; go_simp; (first | done | exact rfl)) ?_
  simp only [List.set_cons_succ, List.set_cons_zero]
  refine lin_store (i := 7) (St w [⟨w.heap.size, [some (.int .u64 (tn (x0.lo))), some (.int .u64 (tn (x0.hi)))], 24⟩, ⟨w.heap.size + 1, [some (.int .u64 (tn (x1.lo))), some (.int .u64 (tn (x1.hi)))], 24⟩, ⟨w.heap.size + 2, [some (.int .u64 0), some (.int .u64 (tn (onesV (maxU x0.hi x1.hi))))], 24⟩]) rfl rfl (by rfl) (fun x => ((x.setCell ⟨w.heap.size + 2, 0, none⟩ (.int .u64 0)).setCell ⟨w.heap.size + 2, 1, none⟩ (.int .u64 (tn (onesV (maxU x0.hi x1.hi)))))) (by intro x hx; obtain ⟨u0, z0⟩ := hx.has 2 0 rfl (by simp); have q0 := hx.soft 2 0 rfl; obtain ⟨u1, z1⟩ := hx.has 2 1 rfl (by simp); have q1 := hx.soft 2 1 rfl; go_simp; (first | done | rfl)) (fun x hx => ((hx.put 2 0 (.int .u64 0) rfl).put 2 1 (.int .u64 (tn (onesV (maxU x0.hi x1.hi)))) rfl)) ?_
  refine lin_done ?_
  intro W1 hx
  replace HS := hid hx
  clear hx
  go_wp2
  have r0 := HS.out.load 2 0 rfl rfl
  have r1 := HS.out.load 2 1 rfl rfl
  exact bodyPost_ret (v := .agg #[.int .u64 0, .int .u64 (tn (onesV (maxU x0.hi x1.hi)))]) (by simp [results, Try.results40, go_sem, r0, r1]) rfl ⟨rfl, HS.out.below⟩
def ref_Lsh (x0 : P) (x1 : BitVec 64) : P :=
  bif (!(ref_times x0.hi (1#64 <<< (x1 % 64#64).toNat))) then (P.mk 0#64 18446744073709551615#64) else (P.mk (x0.lo * (1#64 <<< (x1 % 64#64).toNat)) (x0.hi * (1#64 <<< (x1 % 64#64).toNat)))
set_option maxRecDepth 100000 in
set_option maxHeartbeats 1000000 in
theorem ref_Lsh_any (x0 : P) (x1 : BitVec 64)  (w : World) :
    Calls Try.prog 42 #[.agg #[.int .u64 (tn (x0.lo)), .int .u64 (tn (x0.hi))], .int .i64 (ti (x1))] w fun e w' => e = .returned (.agg #[.int .u64 (tn ((ref_Lsh x0 x1).lo)), .int .u64 (tn ((ref_Lsh x0 x1).hi))]) ∧ Below w.heap.size w w' := by
  go_enter Try.func42, Try.ntmps42
  have HS := hid (((st_nil w).alloc (k := w.heap.size) rfl [.int .u64 (tn (x0.lo)), .int .u64 (tn (x0.hi))] 24).alloc (k := w.heap.size + 1) (by simp) [.int .u64 0, .int .u64 0] 24)
  -- region 1
  go_upto_region 1 with fail
  refine lin_begin (St w [⟨w.heap.size, [some (.int .u64 (tn (x0.lo))), some (.int .u64 (tn (x0.hi)))], 24⟩, ⟨w.heap.size + 1, [some (.int .u64 0), some (.int .u64 0)], 24⟩]) rfl HS.out ?_
  refine lin_val (i := 0) (v := .int .i64 (ti (x1))) rfl rfl (by rfl) (by intro x hx; go_simp; (first | done | exact rfl)) ?_
  simp only [List.set_cons_succ, List.set_cons_zero]
  refine lin_call (i := 1) (f := 97) (args := #[.int .i64 (ti (x1))]) (v := .tuple #[.int .i64 (ti (x1 % 64#64)), .int .u64 (tn (1#64 <<< (x1 % 64#64).toNat))]) (st_ups _ _) rfl rfl (by rfl) (fun x hx => by kernel_rfl) (by intro x hx; exact ref_by_any x1 _) ?_
  simp only [List.set_cons_succ, List.set_cons_zero]
  refine lin_val (i := 2) (v := .tuple #[.int .i64 (ti (x1 % 64#64)), .int .u64 (tn (1#64 <<< (x1 % 64#64).toNat))]) rfl rfl (by rfl) (by intro x hx; go_simp; (first | done | exact rfl)) ?_
  simp only [List.set_cons_succ, List.set_cons_zero]
  refine lin_val (i := 3) (v := .int .i64 (ti (x1 % 64#64))) rfl rfl (by rfl) (by intro x hx; go_simp; (first | done | exact rfl)) ?_
  simp only [List.set_cons_succ, List.set_cons_zero]
  refine lin_val (i := 4) (v := .int .u64 (tn (1#64 <<< (x1 % 64#64).toNat))) rfl rfl (by rfl) (by intro x hx; go_simp; (first | done | exact rfl)) ?_
  simp only [List.set_cons_succ, List.set_cons_zero]
  refine lin_val (i := 5) (v := .int .i64 (ti (x1 % 64#64))) rfl rfl (by rfl) (by intro x hx; go_simp; (first | done | exact rfl)) ?_
  simp only [List.set_cons_succ, List.set_cons_zero]
  refine lin_val (i := 6) (v := .int .u64 (tn (1#64 <<< (x1 % 64#64).toNat))) rfl rfl (by rfl) (by intro x hx; go_simp; (first | done | exact rfl)) ?_
  simp only [List.set_cons_succ, List.set_cons_zero]
  refine lin_done ?_
  intro W1 hx
  replace HS := hid hx
  clear hx
  -- region 2
  go_upto_region 2 with fail
  refine lin_begin (St w [⟨w.heap.size, [some (.int .u64 (tn (x0.lo))), some (.int .u64 (tn (x0.hi)))], 24⟩, ⟨w.heap.size + 1, [some (.int .u64 0), some (.int .u64 0)], 24⟩]) rfl HS.out ?_
  refine lin_val (i := 0) (v := .pointer (some ⟨w.heap.size, 1, none⟩)) rfl rfl (by rfl) (by intro x hx; go_simp; (first | done | exact rfl)) ?_
  simp only [List.set_cons_succ, List.set_cons_zero]
  refine lin_val (i := 1) (v := .int .u64 (tn (x0.hi))) rfl rfl (by rfl) (by intro x hx; have f0 := hx.load 0 1 rfl rfl; go_simp; (first | done | exact rfl)) ?_
  simp only [List.set_cons_succ, List.set_cons_zero]
  refine lin_val (i := 2) (v := .int .u64 (tn (1#64 <<< (x1 % 64#64).toNat))) rfl rfl (by rfl) (by intro x hx; go_simp; (first | done | exact rfl)) ?_
  simp only [List.set_cons_succ, List.set_cons_zero]
  refine lin_call (i := 3) (f := 93) (args := #[.int .u64 (tn (x0.hi)), .int .u64 (tn (1#64 <<< (x1 % 64#64).toNat))]) (v := .bool (ref_times x0.hi (1#64 <<< (x1 % 64#64).toNat))) (st_ups _ _) rfl rfl (by rfl) (fun x hx => by kernel_rfl) (by intro x hx; exact ref_times_any x0.hi (1#64 <<< (x1 % 64#64).toNat) _) ?_
  simp only [List.set_cons_succ, List.set_cons_zero]
  refine lin_val (i := 4) (v := .bool ((!(ref_times x0.hi (1#64 <<< (x1 % 64#64).toNat))))) rfl rfl (by rfl) (by intro x hx; go_simp; (first | done | exact rfl)) ?_
  simp only [List.set_cons_succ, List.set_cons_zero]
  refine lin_done ?_
  intro W2 hx
  replace HS := hid hx
  clear hx
  cases h1 : ((!(ref_times x0.hi (1#64 <<< (x1 % 64#64).toNat))))
  · replace h1 := hid h1
    -- region 4
    go_upto_region 4 with fail
    refine lin_begin (St w [⟨w.heap.size, [some (.int .u64 (tn (x0.lo))), some (.int .u64 (tn (x0.hi)))], 24⟩, ⟨w.heap.size + 1, [some (.int .u64 0), some (.int .u64 0)], 24⟩]) rfl HS.out ?_
    refine lin_val (i := 0) (v := .pointer (some ⟨w.heap.size, 0, none⟩)) rfl rfl (by rfl) (by intro x hx; go_simp; (first | done | exact rfl)) ?_
    simp only [List.set_cons_succ, List.set_cons_zero]
    refine lin_val (i := 1) (v := .int .u64 (tn (x0.lo))) rfl rfl (by rfl) (by intro x hx; have f0 := hx.load 0 0 rfl rfl; go_simp; (first | done | exact rfl)) ?_
    simp only [List.set_cons_succ, List.set_cons_zero]
    refine lin_val (i := 2) (v := .int .u64 (tn (1#64 <<< (x1 % 64#64).toNat))) rfl rfl (by rfl) (by intro x hx; go_simp; (first | done | exact rfl)) ?_
    simp only [List.set_cons_succ, List.set_cons_zero]
    refine lin_val (i := 3) (v := .int .u64 (tn (x0.lo * (1#64 <<< (x1 % 64#64).toNat)))) rfl rfl (by rfl) (by intro x hx; go_simp; (first | done | exact mulUT x0.lo (1#64 <<< (x1 % 64#64).toNat) | exact congrArg _ (mulUT x0.lo (1#64 <<< (x1 % 64#64).toNat)) | (rw [mulUT x0.lo (1#64 <<< (x1 % 64#64).toNat)]; done) | (rw [mulUT x0.lo (1#64 <<< (x1 % 64#64).toNat)]; rfl))) ?_
    simp only [List.set_cons_succ, List.set_cons_zero]
    refine lin_val (i := 4) (v := .pointer (some ⟨w.heap.size, 1, none⟩)) rfl rfl (by rfl) (by intro x hx; go_simp; (first | done | exact rfl)) ?_
    simp only [List.set_cons_succ, List.set_cons_zero]
    refine lin_val (i := 5) (v := .int .u64 (tn (x0.hi))) rfl rfl (by rfl) (by intro x hx; have f0 := hx.load 0 1 rfl rfl; go_simp; (first | done | exact rfl)) ?_
    simp only [List.set_cons_succ, List.set_cons_zero]
    refine lin_val (i := 6) (v := .int .u64 (tn (1#64 <<< (x1 % 64#64).toNat))) rfl rfl (by rfl) (by intro x hx; go_simp; (first | done | exact rfl)) ?_
    simp only [List.set_cons_succ, List.set_cons_zero]
    refine lin_val (i := 7) (v := .int .u64 (tn (x0.hi * (1#64 <<< (x1 % 64#64).toNat)))) rfl rfl (by rfl) (by intro x hx; go_simp; (first | done | exact mulUT x0.hi (1#64 <<< (x1 % 64#64).toNat) | exact congrArg _ (mulUT x0.hi (1#64 <<< (x1 % 64#64).toNat)) | (rw [mulUT x0.hi (1#64 <<< (x1 % 64#64).toNat)]; done) | (rw [mulUT x0.hi (1#64 <<< (x1 % 64#64).toNat)]; rfl))) ?_
    simp only [List.set_cons_succ, List.set_cons_zero]
    refine lin_val (i := 8) (v := .agg #[.int .u64 (tn (x0.lo * (1#64 <<< (x1 % 64#64).toNat))), .int .u64 (tn (x0.hi * (1#64 <<< (x1 % 64#64).toNat)))]) rfl rfl (by rfl) (by intro x hx; go_simp; (first | done | exact rfl)) ?_
    simp only [List.set_cons_succ, List.set_cons_zero]
    refine lin_store (i := 9) (St w [⟨w.heap.size, [some (.int .u64 (tn (x0.lo))), some (.int .u64 (tn (x0.hi)))], 24⟩, ⟨w.heap.size + 1, [some (.int .u64 (tn (x0.lo * (1#64 <<< (x1 % 64#64).toNat)))), some (.int .u64 (tn (x0.hi * (1#64 <<< (x1 % 64#64).toNat))))], 24⟩]) rfl rfl (by rfl) (fun x => ((x.setCell ⟨w.heap.size + 1, 0, none⟩ (.int .u64 (tn (x0.lo * (1#64 <<< (x1 % 64#64).toNat))))).setCell ⟨w.heap.size + 1, 1, none⟩ (.int .u64 (tn (x0.hi * (1#64 <<< (x1 % 64#64).toNat)))))) (by intro x hx; obtain ⟨u0, z0⟩ := hx.has 1 0 rfl (by simp); have q0 := hx.soft 1 0 rfl; obtain ⟨u1, z1⟩ := hx.has 1 1 rfl (by simp); have q1 := hx.soft 1 1 rfl; go_simp; (first | done | rfl)) (fun x hx => ((hx.put 1 0 (.int .u64 (tn (x0.lo * (1#64 <<< (x1 % 64#64).toNat)))) rfl).put 1 1 (.int .u64 (tn (x0.hi * (1#64 <<< (x1 % 64#64).toNat)))) rfl)) ?_
    refine lin_done ?_
    intro W3 hx
    replace HS := hid hx
    clear hx
    go_wp2
    have r0 := HS.out.load 1 0 rfl rfl
    have r1 := HS.out.load 1 1 rfl rfl
    have HF : ref_Lsh x0 x1 = P.mk (x0.lo * (1#64 <<< (x1 % 64#64).toNat)) (x0.hi * (1#64 <<< (x1 % 64#64).toNat)) := by
      unfold ref_Lsh
      rw [cond_f h1.out]
    exact bodyPost_ret (v := .agg #[.int .u64 (tn (x0.lo * (1#64 <<< (x1 % 64#64).toNat))), .int .u64 (tn (x0.hi * (1#64 <<< (x1 % 64#64).toNat)))]) (by simp [results, Try.results42, go_sem, r0, r1]) rfl ⟨(by first | (rw [HF]; done) | (rw [HF]; rfl)), HS.out.below⟩
  · replace h1 := hid h1
    -- region 3
    go_upto_region 3 with fail
    refine lin_begin (St w [⟨w.heap.size, [some (.int .u64 (tn (x0.lo))), some (.int .u64 (tn (x0.hi)))], 24⟩, ⟨w.heap.size + 1, [some (.int .u64 0), some (.int .u64 0)], 24⟩]) rfl HS.out ?_
    refine lin_call (i := 0) (f := 18) (args := #[]) (v := .agg #[.int .u64 (tn (0#64)), .int .u64 (tn (18446744073709551615#64))]) (st_ups _ _) rfl rfl (by rfl) (fun x hx => by kernel_rfl) (by intro x hx; exact ref_All_any _) ?_
    simp only [List.set_cons_succ, List.set_cons_zero]
    refine lin_store (i := 1) (St w [⟨w.heap.size, [some (.int .u64 (tn (x0.lo))), some (.int .u64 (tn (x0.hi)))], 24⟩, ⟨w.heap.size + 1, [some (.int .u64 (tn (0#64))), some (.int .u64 (tn (18446744073709551615#64)))], 24⟩]) rfl rfl (by rfl) (fun x => ((x.setCell ⟨w.heap.size + 1, 0, none⟩ (.int .u64 (tn (0#64)))).setCell ⟨w.heap.size + 1, 1, none⟩ (.int .u64 (tn (18446744073709551615#64))))) (by intro x hx; obtain ⟨u0, z0⟩ := hx.has 1 0 rfl (by simp); have q0 := hx.soft 1 0 rfl; obtain ⟨u1, z1⟩ := hx.has 1 1 rfl (by simp); have q1 := hx.soft 1 1 rfl; go_simp; (first | done | rfl)) (fun x hx => ((hx.put 1 0 (.int .u64 (tn (0#64))) rfl).put 1 1 (.int .u64 (tn (18446744073709551615#64))) rfl)) ?_
    refine lin_done ?_
    intro W3 hx
    replace HS := hid hx
    clear hx
    go_wp2
    have r0 := HS.out.load 1 0 rfl rfl
    have r1 := HS.out.load 1 1 rfl rfl
    have HF : ref_Lsh x0 x1 = P.mk 0#64 18446744073709551615#64 := by
      unfold ref_Lsh
      rw [cond_t h1.out]
    exact bodyPost_ret (v := .agg #[.int .u64 (tn (0#64)), .int .u64 (tn (18446744073709551615#64))]) (by simp [results, Try.results42, go_sem, r0, r1]) rfl ⟨(by first | (rw [HF]; done) | (rw [HF]; rfl)), HS.out.below⟩
set_option maxRecDepth 100000 in
set_option maxHeartbeats 1000000 in
theorem ref_Rsh_any (x0 : P) (x1 : BitVec 64)  (w : World) :
    Calls Try.prog 44 #[.agg #[.int .u64 (tn (x0.lo)), .int .u64 (tn (x0.hi))], .int .i64 (ti (x1))] w fun e w' => e = .returned (.agg #[.int .u64 (tn (x0.lo / (1#64 <<< (x1 % 64#64).toNat))), .int .u64 (tn (x0.hi / (1#64 <<< (x1 % 64#64).toNat)))]) ∧ Below w.heap.size w w' := by
  go_enter Try.func44, Try.ntmps44
  have HS := hid (((st_nil w).alloc (k := w.heap.size) rfl [.int .u64 (tn (x0.lo)), .int .u64 (tn (x0.hi))] 24).alloc (k := w.heap.size + 1) (by simp) [.int .u64 0, .int .u64 0] 24)
  -- region 1
  go_upto_region 1 with fail
  refine lin_begin (St w [⟨w.heap.size, [some (.int .u64 (tn (x0.lo))), some (.int .u64 (tn (x0.hi)))], 24⟩, ⟨w.heap.size + 1, [some (.int .u64 0), some (.int .u64 0)], 24⟩]) rfl HS.out ?_
  refine lin_val (i := 0) (v := .int .i64 (ti (x1))) rfl rfl (by rfl) (by intro x hx; go_simp; (first | done | exact rfl)) ?_
  simp only [List.set_cons_succ, List.set_cons_zero]
  refine lin_call (i := 1) (f := 97) (args := #[.int .i64 (ti (x1))]) (v := .tuple #[.int .i64 (ti (x1 % 64#64)), .int .u64 (tn (1#64 <<< (x1 % 64#64).toNat))]) (st_ups _ _) rfl rfl (by rfl) (fun x hx => by kernel_rfl) (by intro x hx; exact ref_by_any x1 _) ?_
  simp only [List.set_cons_succ, List.set_cons_zero]
  refine lin_val (i := 2) (v := .tuple #[.int .i64 (ti (x1 % 64#64)), .int .u64 (tn (1#64 <<< (x1 % 64#64).toNat))]) rfl rfl (by rfl) (by intro x hx; go_simp; (first | done | exact rfl)) ?_
  simp only [List.set_cons_succ, List.set_cons_zero]
  refine lin_val (i := 3) (v := .int .i64 (ti (x1 % 64#64))) rfl rfl (by rfl) (by intro x hx; go_simp; (first | done | exact rfl)) ?_
  simp only [List.set_cons_succ, List.set_cons_zero]
  refine lin_val (i := 4) (v := .int .u64 (tn (1#64 <<< (x1 % 64#64).toNat))) rfl rfl (by rfl) (by intro x hx; go_simp; (first | done | exact rfl)) ?_
  simp only [List.set_cons_succ, List.set_cons_zero]
  refine lin_val (i := 5) (v := .int .i64 (ti (x1 % 64#64))) rfl rfl (by rfl) (by intro x hx; go_simp; (first | done | exact rfl)) ?_
  simp only [List.set_cons_succ, List.set_cons_zero]
  refine lin_val (i := 6) (v := .int .u64 (tn (1#64 <<< (x1 % 64#64).toNat))) rfl rfl (by rfl) (by intro x hx; go_simp; (first | done | exact rfl)) ?_
  simp only [List.set_cons_succ, List.set_cons_zero]
  refine lin_done ?_
  intro W1 hx
  replace HS := hid hx
  clear hx
  -- region 2
  go_upto_region 2 with fail
  refine up_begin (St w [⟨w.heap.size, [some (.int .u64 (tn (x0.lo))), some (.int .u64 (tn (x0.hi)))], 24⟩, ⟨w.heap.size + 1, [none, none], 24⟩]) 10 rfl (by kernel_rfl) (St.less HS.out.drew (less_cons rfl rfl (lessC_eq (lessC_eq (trivial))) (less_cons rfl rfl (lessC_no (lessC_no (trivial))) (trivial)))) ?_
  refine take_val (i := 0) (v := .pointer (some ⟨w.heap.size, 0, none⟩)) (st_ups _ _) rfl rfl (by kernel_rfl) (fun _ _ _ h => h) (by rfl) (by intro x hx; go_simp; (first | done | exact rfl)) ?_
  simp only [List.set_cons_succ, List.set_cons_zero]
  refine take_val (i := 1) (v := .int .u64 (tn (x0.lo))) (st_ups _ _) rfl rfl (by kernel_rfl) (fun _ _ _ h => h) (by rfl) (by intro x hx; have f0 := hx.load 0 0 rfl rfl; go_simp; (first | done | exact rfl)) ?_
  simp only [List.set_cons_succ, List.set_cons_zero]
  refine take_val (i := 2) (v := .int .u64 (tn (1#64 <<< (x1 % 64#64).toNat))) (st_ups _ _) rfl rfl (by kernel_rfl) (fun _ _ _ h => h) (by rfl) (by intro x hx; go_simp; (first | done | exact rfl)) ?_
  simp only [List.set_cons_succ, List.set_cons_zero]
  refine take_val (i := 3) (v := .int .u64 (tn (x0.lo / (1#64 <<< (x1 % 64#64).toNat)))) (st_ups _ _) rfl rfl (by kernel_rfl) (fun _ _ _ h => h) (by rfl) (by intro x hx; have hy := ne0U (pow_ne (x1 % 64#64).toNat (mod64_lt x1)); go_simp; (first | done | exact (if_neg hy).trans (congrArg (fun v => Result.ok (Next.value (Value.int .u64 v)) x) (quoUT x0.lo (1#64 <<< (x1 % 64#64).toNat))) | exact quoUT x0.lo (1#64 <<< (x1 % 64#64).toNat) | exact congrArg _ (quoUT x0.lo (1#64 <<< (x1 % 64#64).toNat)) | (rw [quoUT x0.lo (1#64 <<< (x1 % 64#64).toNat)]; done) | (rw [quoUT x0.lo (1#64 <<< (x1 % 64#64).toNat)]; rfl))) ?_
  simp only [List.set_cons_succ, List.set_cons_zero]
  refine take_val (i := 4) (v := .pointer (some ⟨w.heap.size, 1, none⟩)) (st_ups _ _) rfl rfl (by kernel_rfl) (fun _ _ _ h => h) (by rfl) (by intro x hx; go_simp; (first | done | exact rfl)) ?_
  simp only [List.set_cons_succ, List.set_cons_zero]
  refine take_val (i := 5) (v := .int .u64 (tn (x0.hi))) (st_ups _ _) rfl rfl (by kernel_rfl) (fun _ _ _ h => h) (by rfl) (by intro x hx; have f0 := hx.load 0 1 rfl rfl; go_simp; (first | done | exact rfl)) ?_
  simp only [List.set_cons_succ, List.set_cons_zero]
  refine take_val (i := 6) (v := .int .u64 (tn (1#64 <<< (x1 % 64#64).toNat))) (st_ups _ _) rfl rfl (by kernel_rfl) (fun _ _ _ h => h) (by rfl) (by intro x hx; go_simp; (first | done | exact rfl)) ?_
  simp only [List.set_cons_succ, List.set_cons_zero]
  refine take_val (i := 7) (v := .int .u64 (tn (x0.hi / (1#64 <<< (x1 % 64#64).toNat)))) (st_ups _ _) rfl rfl (by kernel_rfl) (fun _ _ _ h => h) (by rfl) (by intro x hx; have hy := ne0U (pow_ne (x1 % 64#64).toNat (mod64_lt x1)); go_simp; (first | done | exact (if_neg hy).trans (congrArg (fun v => Result.ok (Next.value (Value.int .u64 v)) x) (quoUT x0.hi (1#64 <<< (x1 % 64#64).toNat))) | exact quoUT x0.hi (1#64 <<< (x1 % 64#64).toNat) | exact congrArg _ (quoUT x0.hi (1#64 <<< (x1 % 64#64).toNat)) | (rw [quoUT x0.hi (1#64 <<< (x1 % 64#64).toNat)]; done) | (rw [quoUT x0.hi (1#64 <<< (x1 % 64#64).toNat)]; rfl))) ?_
  simp only [List.set_cons_succ, List.set_cons_zero]
  refine take_val (i := 8) (v := .agg #[.int .u64 (tn (x0.lo / (1#64 <<< (x1 % 64#64).toNat))), .int .u64 (tn (x0.hi / (1#64 <<< (x1 % 64#64).toNat)))]) (st_ups _ _) rfl rfl (by kernel_rfl) (fun _ _ _ h => h) (by rfl) (by intro x hx; go_simp; (first | done | exact rfl)) ?_
  simp only [List.set_cons_succ, List.set_cons_zero]
  refine take_one (i := 9) (by kernel_rfl) (step_store (St w [⟨w.heap.size, [some (.int .u64 (tn (x0.lo))), some (.int .u64 (tn (x0.hi)))], 24⟩, ⟨w.heap.size + 1, [some (.int .u64 (tn (x0.lo / (1#64 <<< (x1 % 64#64).toNat)))), some (.int .u64 (tn (x0.hi / (1#64 <<< (x1 % 64#64).toNat))))], 24⟩]) (st_ups _ _) (fun x h => h.less (less_cons rfl rfl (lessC_eq (lessC_eq (trivial))) (less_cons rfl rfl (lessC_no (lessC_no (trivial))) (trivial)))) rfl rfl (by rfl) (fun x => ((x.setCell ⟨w.heap.size + 1, 0, none⟩ (.int .u64 (tn (x0.lo / (1#64 <<< (x1 % 64#64).toNat))))).setCell ⟨w.heap.size + 1, 1, none⟩ (.int .u64 (tn (x0.hi / (1#64 <<< (x1 % 64#64).toNat)))))) (by intro x hx; obtain ⟨u0, z0⟩ := hx.has 1 0 rfl (by simp); have q0 := hx.soft 1 0 rfl; obtain ⟨u1, z1⟩ := hx.has 1 1 rfl (by simp); have q1 := hx.soft 1 1 rfl; go_simp; (first | done | rfl)) (fun x hx => ((hx.put 1 0 (.int .u64 (tn (x0.lo / (1#64 <<< (x1 % 64#64).toNat)))) rfl).put 1 1 (.int .u64 (tn (x0.hi / (1#64 <<< (x1 % 64#64).toNat)))) rfl)) ?_)
  refine take_done (by kernel_rfl) ?_ _
  intro W2 hx
  replace HS := hid hx
  clear hx
  go_wp2
  have r0 := HS.out.load 1 0 rfl rfl
  have r1 := HS.out.load 1 1 rfl rfl
  exact bodyPost_ret (v := .agg #[.int .u64 (tn (x0.lo / (1#64 <<< (x1 % 64#64).toNat))), .int .u64 (tn (x0.hi / (1#64 <<< (x1 % 64#64).toNat)))]) (by simp [results, Try.results44, go_sem, r0, r1]) rfl ⟨rfl, HS.out.below⟩
def ref_Sarsh (x0 : P) (x1 : BitVec 64) : P :=
  P.mk (BitVec.sshiftRight x0.lo (x1 % 64#64).toNat) (BitVec.sshiftRight x0.hi (x1 % 64#64).toNat)
set_option maxRecDepth 100000 in
set_option maxHeartbeats 1000000 in
theorem ref_Sarsh_any (x0 : P) (x1 : BitVec 64)  (w : World) :
    Calls Try.prog 65 #[.agg #[.int .i64 (ti (x0.lo)), .int .i64 (ti (x0.hi))], .int .i64 (ti (x1))] w fun e w' => e = .returned (.agg #[.int .i64 (ti ((ref_Sarsh x0 x1).lo)), .int .i64 (ti ((ref_Sarsh x0 x1).hi))]) ∧ Below w.heap.size w w' := by
  go_enter Try.func65, Try.ntmps65
  have HS := hid (((st_nil w).alloc (k := w.heap.size) rfl [.int .i64 (ti (x0.lo)), .int .i64 (ti (x0.hi))] 38).alloc (k := w.heap.size + 1) (by simp) [.int .i64 0, .int .i64 0] 38)
  -- region 1
  go_upto_region 1 with fail
  refine lin_begin (St w [⟨w.heap.size, [some (.int .i64 (ti (x0.lo))), some (.int .i64 (ti (x0.hi)))], 38⟩, ⟨w.heap.size + 1, [some (.int .i64 0), some (.int .i64 0)], 38⟩]) rfl HS.out ?_
  refine lin_val (i := 0) (v := .int .i64 (ti (x1))) rfl rfl (by rfl) (by intro x hx; go_simp; (first | done | exact rfl)) ?_
  simp only [List.set_cons_succ, List.set_cons_zero]
  refine lin_call (i := 1) (f := 97) (args := #[.int .i64 (ti (x1))]) (v := .tuple #[.int .i64 (ti (x1 % 64#64)), .int .u64 (tn (1#64 <<< (x1 % 64#64).toNat))]) (st_ups _ _) rfl rfl (by rfl) (fun x hx => by kernel_rfl) (by intro x hx; exact ref_by_any x1 _) ?_
  simp only [List.set_cons_succ, List.set_cons_zero]
  refine lin_val (i := 2) (v := .tuple #[.int .i64 (ti (x1 % 64#64)), .int .u64 (tn (1#64 <<< (x1 % 64#64).toNat))]) rfl rfl (by rfl) (by intro x hx; go_simp; (first | done | exact rfl)) ?_
  simp only [List.set_cons_succ, List.set_cons_zero]
  refine lin_val (i := 3) (v := .int .i64 (ti (x1 % 64#64))) rfl rfl (by rfl) (by intro x hx; go_simp; (first | done | exact rfl)) ?_
  simp only [List.set_cons_succ, List.set_cons_zero]
  refine lin_val (i := 4) (v := .int .u64 (tn (1#64 <<< (x1 % 64#64).toNat))) rfl rfl (by rfl) (by intro x hx; go_simp; (first | done | exact rfl)) ?_
  simp only [List.set_cons_succ, List.set_cons_zero]
  refine lin_val (i := 5) (v := .int .i64 (ti (x1 % 64#64))) rfl rfl (by rfl) (by intro x hx; go_simp; (first | done | exact rfl)) ?_
  simp only [List.set_cons_succ, List.set_cons_zero]
  refine lin_val (i := 6) (v := .int .u64 (tn (1#64 <<< (x1 % 64#64).toNat))) rfl rfl (by rfl) (by intro x hx; go_simp; (first | done | exact rfl)) ?_
  simp only [List.set_cons_succ, List.set_cons_zero]
  refine lin_done ?_
  intro W1 hx
  replace HS := hid hx
  clear hx
  -- region 2
  go_upto_region 2 with fail
  refine up_begin (St w [⟨w.heap.size, [some (.int .i64 (ti (x0.lo))), some (.int .i64 (ti (x0.hi)))], 38⟩, ⟨w.heap.size + 1, [none, none], 38⟩]) 10 rfl (by kernel_rfl) (St.less HS.out.drew (less_cons rfl rfl (lessC_eq (lessC_eq (trivial))) (less_cons rfl rfl (lessC_no (lessC_no (trivial))) (trivial)))) ?_
  refine take_val (i := 0) (v := .pointer (some ⟨w.heap.size, 0, none⟩)) (st_ups _ _) rfl rfl (by kernel_rfl) (fun _ _ _ h => h) (by rfl) (by intro x hx; go_simp; (first | done | exact rfl)) ?_
  simp only [List.set_cons_succ, List.set_cons_zero]
  refine take_val (i := 1) (v := .int .i64 (ti (x0.lo))) (st_ups _ _) rfl rfl (by kernel_rfl) (fun _ _ _ h => h) (by rfl) (by intro x hx; have f0 := hx.load 0 0 rfl rfl; go_simp; (first | done | exact rfl)) ?_
  simp only [List.set_cons_succ, List.set_cons_zero]
  refine take_val (i := 2) (v := .int .i64 (ti (x1 % 64#64))) (st_ups _ _) rfl rfl (by kernel_rfl) (fun _ _ _ h => h) (by rfl) (by intro x hx; go_simp; (first | done | exact rfl)) ?_
  simp only [List.set_cons_succ, List.set_cons_zero]
  refine take_call (i := 3) (f := 111) (args := #[.int .i64 (ti (x0.lo)), .int .i64 (ti (x1 % 64#64))]) (v := .int .i64 (ti (BitVec.sshiftRight x0.lo (x1 % 64#64).toNat))) (st_ups _ _) rfl rfl (by kernel_rfl) (fun _ _ _ h => h) (by rfl) (fun x hx => by kernel_rfl) (by intro x hx; exact ref_halved_is x0.lo (x1 % 64#64) (mod64_lt _) _) ?_
  simp only [List.set_cons_succ, List.set_cons_zero]
  refine take_val (i := 4) (v := .pointer (some ⟨w.heap.size, 1, none⟩)) (st_ups _ _) rfl rfl (by kernel_rfl) (fun _ _ _ h => h) (by rfl) (by intro x hx; go_simp; (first | done | exact rfl)) ?_
  simp only [List.set_cons_succ, List.set_cons_zero]
  refine take_val (i := 5) (v := .int .i64 (ti (x0.hi))) (st_ups _ _) rfl rfl (by kernel_rfl) (fun _ _ _ h => h) (by rfl) (by intro x hx; have f0 := hx.load 0 1 rfl rfl; go_simp; (first | done | exact rfl)) ?_
  simp only [List.set_cons_succ, List.set_cons_zero]
  refine take_val (i := 6) (v := .int .i64 (ti (x1 % 64#64))) (st_ups _ _) rfl rfl (by kernel_rfl) (fun _ _ _ h => h) (by rfl) (by intro x hx; go_simp; (first | done | exact rfl)) ?_
  simp only [List.set_cons_succ, List.set_cons_zero]
  refine take_call (i := 7) (f := 111) (args := #[.int .i64 (ti (x0.hi)), .int .i64 (ti (x1 % 64#64))]) (v := .int .i64 (ti (BitVec.sshiftRight x0.hi (x1 % 64#64).toNat))) (st_ups _ _) rfl rfl (by kernel_rfl) (fun _ _ _ h => h) (by rfl) (fun x hx => by kernel_rfl) (by intro x hx; exact ref_halved_is x0.hi (x1 % 64#64) (mod64_lt _) _) ?_
  simp only [List.set_cons_succ, List.set_cons_zero]
  refine take_val (i := 8) (v := .agg #[.int .i64 (ti (BitVec.sshiftRight x0.lo (x1 % 64#64).toNat)), .int .i64 (ti (BitVec.sshiftRight x0.hi (x1 % 64#64).toNat))]) (st_ups _ _) rfl rfl (by kernel_rfl) (fun _ _ _ h => h) (by rfl) (by intro x hx; go_simp; (first | done | exact rfl)) ?_
  simp only [List.set_cons_succ, List.set_cons_zero]
  refine take_one (i := 9) (by kernel_rfl) (step_store (St w [⟨w.heap.size, [some (.int .i64 (ti (x0.lo))), some (.int .i64 (ti (x0.hi)))], 38⟩, ⟨w.heap.size + 1, [some (.int .i64 (ti (BitVec.sshiftRight x0.lo (x1 % 64#64).toNat))), some (.int .i64 (ti (BitVec.sshiftRight x0.hi (x1 % 64#64).toNat)))], 38⟩]) (st_ups _ _) (fun x h => h.less (less_cons rfl rfl (lessC_eq (lessC_eq (trivial))) (less_cons rfl rfl (lessC_no (lessC_no (trivial))) (trivial)))) rfl rfl (by rfl) (fun x => ((x.setCell ⟨w.heap.size + 1, 0, none⟩ (.int .i64 (ti (BitVec.sshiftRight x0.lo (x1 % 64#64).toNat)))).setCell ⟨w.heap.size + 1, 1, none⟩ (.int .i64 (ti (BitVec.sshiftRight x0.hi (x1 % 64#64).toNat))))) (by intro x hx; obtain ⟨u0, z0⟩ := hx.has 1 0 rfl (by simp); have q0 := hx.soft 1 0 rfl; obtain ⟨u1, z1⟩ := hx.has 1 1 rfl (by simp); have q1 := hx.soft 1 1 rfl; go_simp; (first | done | rfl)) (fun x hx => ((hx.put 1 0 (.int .i64 (ti (BitVec.sshiftRight x0.lo (x1 % 64#64).toNat))) rfl).put 1 1 (.int .i64 (ti (BitVec.sshiftRight x0.hi (x1 % 64#64).toNat))) rfl)) ?_)
  refine take_done (by kernel_rfl) ?_ _
  intro W2 hx
  replace HS := hid hx
  clear hx
  go_wp2
  have r0 := HS.out.load 1 0 rfl rfl
  have r1 := HS.out.load 1 1 rfl rfl
  have HF : ref_Sarsh x0 x1 = P.mk (BitVec.sshiftRight x0.lo (x1 % 64#64).toNat) (BitVec.sshiftRight x0.hi (x1 % 64#64).toNat) := by
    unfold ref_Sarsh
    rfl
  exact bodyPost_ret (v := .agg #[.int .i64 (ti (BitVec.sshiftRight x0.lo (x1 % 64#64).toNat)), .int .i64 (ti (BitVec.sshiftRight x0.hi (x1 % 64#64).toNat))]) (by simp [results, Try.results65, go_sem, r0, r1]) rfl ⟨(by first | (rw [HF]; done) | (rw [HF]; rfl)), HS.out.below⟩
theorem lo_ne {b : P} (h : ref_In b 0#64 = false) : (b.lo == 0#64) = false := by rw [← in_zero]; exact h
theorem hi_ne {b : P} (hv : leU b.lo b.hi = true) (h : ref_In b 0#64 = false) : (b.hi == 0#64) = false := by
  have k := lo_ne h
  have h0 := tn_lo b.lo
  have l := of_decide_eq_true hv
  rw [eq0, decide_eq_false_iff_not] at *
  omega
def ref_Div (x0 : P) (x1 : P) : P :=
  bif eqP x1 (P.mk 0#64 0#64) then (P.mk 0#64 0#64) else (bif ref_In x1 0#64 then (P.mk 0#64 x0.hi) else (P.mk (x0.lo / x1.hi) (x0.hi / x1.lo)))
set_option maxRecDepth 100000 in
set_option maxHeartbeats 1000000 in
theorem ref_Div_any (x0 : P) (x1 : P) (hv : leU x1.lo x1.hi = true) (w : World) :
    Calls Try.prog 32 #[.agg #[.int .u64 (tn (x0.lo)), .int .u64 (tn (x0.hi))], .agg #[.int .u64 (tn (x1.lo)), .int .u64 (tn (x1.hi))]] w fun e w' => e = .returned (.agg #[.int .u64 (tn ((ref_Div x0 x1).lo)), .int .u64 (tn ((ref_Div x0 x1).hi))]) ∧ Below w.heap.size w w' := by
  have Hhv := hid hv
  clear hv
  go_enter Try.func32, Try.ntmps32
  have HS := hid ((((st_nil w).alloc (k := w.heap.size) rfl [.int .u64 (tn (x0.lo)), .int .u64 (tn (x0.hi))] 24).alloc (k := w.heap.size + 1) (by simp) [.int .u64 (tn (x1.lo)), .int .u64 (tn (x1.hi))] 24).alloc (k := w.heap.size + 2) (by simp) [.int .u64 0, .int .u64 0] 24)
  -- region 1
  go_upto_region 1 with fail
  refine up_begin (St w [⟨w.heap.size, [some (.int .u64 (tn (x0.lo))), some (.int .u64 (tn (x0.hi)))], 24⟩, ⟨w.heap.size + 1, [some (.int .u64 (tn (x1.lo))), some (.int .u64 (tn (x1.hi)))], 24⟩, ⟨w.heap.size + 2, [some (.int .u64 0), some (.int .u64 0)], 24⟩]) 3 rfl (by kernel_rfl) (HS.out.drew) ?_
  refine take_val (i := 0) (v := .agg #[.int .u64 (tn (x1.lo)), .int .u64 (tn (x1.hi))]) (st_ups _ _) rfl rfl (by kernel_rfl) (fun _ _ _ h => h) (by rfl) (by intro x hx; have f0 := hx.load 1 0 rfl rfl; have f1 := hx.load 1 1 rfl rfl; go_simp; (first | done | exact rfl)) ?_
  simp only [List.set_cons_succ, List.set_cons_zero]
  refine take_call (i := 1) (f := 16) (args := #[.int .u64 (tn (0#64))]) (v := .agg #[.int .u64 (tn (0#64)), .int .u64 (tn (0#64))]) (st_ups _ _) rfl rfl (by kernel_rfl) (fun _ _ _ h => h) (by rfl) (fun x hx => by kernel_rfl) (by intro x hx; exact ref_Of_any 0#64 _) ?_
  simp only [List.set_cons_succ, List.set_cons_zero]
  refine take_val (i := 2) (v := .bool (eqP x1 (P.mk 0#64 0#64))) (st_ups _ _) rfl rfl (by kernel_rfl) (fun _ _ _ h => h) (by rfl) (by intro x hx; go_simp; (first | done | exact eqPT (fun b => Result.ok (Next.value (Value.bool b)) x) x1.lo x1.hi 0#64 0#64)) ?_
  simp only [List.set_cons_succ, List.set_cons_zero]
  refine take_done (by kernel_rfl) ?_ _
  intro W1 hx
  replace HS := hid hx
  clear hx
  cases h1 : (eqP x1 (P.mk 0#64 0#64))
  · replace h1 := hid h1
    -- region 3
    go_upto_region 3 with fail
    refine lin_begin (St w [⟨w.heap.size, [some (.int .u64 (tn (x0.lo))), some (.int .u64 (tn (x0.hi)))], 24⟩, ⟨w.heap.size + 1, [some (.int .u64 (tn (x1.lo))), some (.int .u64 (tn (x1.hi)))], 24⟩, ⟨w.heap.size + 2, [some (.int .u64 0), some (.int .u64 0)], 24⟩]) rfl HS.out ?_
    refine lin_val (i := 0) (v := .agg #[.int .u64 (tn (x1.lo)), .int .u64 (tn (x1.hi))]) rfl rfl (by rfl) (by intro x hx; have f0 := hx.load 1 0 rfl rfl; have f1 := hx.load 1 1 rfl rfl; go_simp; (first | done | exact rfl)) ?_
    simp only [List.set_cons_succ, List.set_cons_zero]
    refine lin_call (i := 1) (f := 20) (args := #[.agg #[.int .u64 (tn (x1.lo)), .int .u64 (tn (x1.hi))], .int .u64 (tn (0#64))]) (v := .bool (ref_In x1 0#64)) (st_ups _ _) rfl rfl (by rfl) (fun x hx => by kernel_rfl) (by intro x hx; exact ref_In_any x1 0#64 _) ?_
    simp only [List.set_cons_succ, List.set_cons_zero]
    refine lin_done ?_
    intro W2 hx
    replace HS := hid hx
    clear hx
    cases h2 : (ref_In x1 0#64)
    · replace h2 := hid h2
      -- region 5
      go_upto_region 5 with fail
      refine up_begin (St w [⟨w.heap.size, [some (.int .u64 (tn (x0.lo))), some (.int .u64 (tn (x0.hi)))], 24⟩, ⟨w.heap.size + 1, [some (.int .u64 (tn (x1.lo))), some (.int .u64 (tn (x1.hi)))], 24⟩, ⟨w.heap.size + 2, [none, none], 24⟩]) 12 rfl (by kernel_rfl) (St.less HS.out.drew (less_cons rfl rfl (lessC_eq (lessC_eq (trivial))) (less_cons rfl rfl (lessC_eq (lessC_eq (trivial))) (less_cons rfl rfl (lessC_no (lessC_no (trivial))) (trivial))))) ?_
      refine take_val (i := 0) (v := .pointer (some ⟨w.heap.size, 0, none⟩)) (st_ups _ _) rfl rfl (by kernel_rfl) (fun _ _ _ h => h) (by rfl) (by intro x hx; go_simp; (first | done | exact rfl)) ?_
      simp only [List.set_cons_succ, List.set_cons_zero]
      refine take_val (i := 1) (v := .int .u64 (tn (x0.lo))) (st_ups _ _) rfl rfl (by kernel_rfl) (fun _ _ _ h => h) (by rfl) (by intro x hx; have f0 := hx.load 0 0 rfl rfl; go_simp; (first | done | exact rfl)) ?_
      simp only [List.set_cons_succ, List.set_cons_zero]
      refine take_val (i := 2) (v := .pointer (some ⟨w.heap.size + 1, 1, none⟩)) (st_ups _ _) rfl rfl (by kernel_rfl) (fun _ _ _ h => h) (by rfl) (by intro x hx; go_simp; (first | done | exact rfl)) ?_
      simp only [List.set_cons_succ, List.set_cons_zero]
      refine take_val (i := 3) (v := .int .u64 (tn (x1.hi))) (st_ups _ _) rfl rfl (by kernel_rfl) (fun _ _ _ h => h) (by rfl) (by intro x hx; have f0 := hx.load 1 1 rfl rfl; go_simp; (first | done | exact rfl)) ?_
      simp only [List.set_cons_succ, List.set_cons_zero]
      refine take_val (i := 4) (v := .int .u64 (tn (x0.lo / x1.hi))) (st_ups _ _) rfl rfl (by kernel_rfl) (fun _ _ _ h => h) (by rfl) (by intro x hx; have hy := ne0U (hi_ne Hhv.out h2.out); go_simp; (first | done | exact (if_neg hy).trans (congrArg (fun v => Result.ok (Next.value (Value.int .u64 v)) x) (quoUT x0.lo x1.hi)) | exact quoUT x0.lo x1.hi | exact congrArg _ (quoUT x0.lo x1.hi) | (rw [quoUT x0.lo x1.hi]; done) | (rw [quoUT x0.lo x1.hi]; rfl))) ?_
      simp only [List.set_cons_succ, List.set_cons_zero]
      refine take_val (i := 5) (v := .pointer (some ⟨w.heap.size, 1, none⟩)) (st_ups _ _) rfl rfl (by kernel_rfl) (fun _ _ _ h => h) (by rfl) (by intro x hx; go_simp; (first | done | exact rfl)) ?_
      simp only [List.set_cons_succ, List.set_cons_zero]
      refine take_val (i := 6) (v := .int .u64 (tn (x0.hi))) (st_ups _ _) rfl rfl (by kernel_rfl) (fun _ _ _ h => h) (by rfl) (by intro x hx; have f0 := hx.load 0 1 rfl rfl; go_simp; (first | done | exact rfl)) ?_
      simp only [List.set_cons_succ, List.set_cons_zero]
      refine take_val (i := 7) (v := .pointer (some ⟨w.heap.size + 1, 0, none⟩)) (st_ups _ _) rfl rfl (by kernel_rfl) (fun _ _ _ h => h) (by rfl) (by intro x hx; go_simp; (first | done | exact rfl)) ?_
      simp only [List.set_cons_succ, List.set_cons_zero]
      refine take_val (i := 8) (v := .int .u64 (tn (x1.lo))) (st_ups _ _) rfl rfl (by kernel_rfl) (fun _ _ _ h => h) (by rfl) (by intro x hx; have f0 := hx.load 1 0 rfl rfl; go_simp; (first | done | exact rfl)) ?_
      simp only [List.set_cons_succ, List.set_cons_zero]
      refine take_val (i := 9) (v := .int .u64 (tn (x0.hi / x1.lo))) (st_ups _ _) rfl rfl (by kernel_rfl) (fun _ _ _ h => h) (by rfl) (by intro x hx; have hy := ne0U (lo_ne h2.out); go_simp; (first | done | exact (if_neg hy).trans (congrArg (fun v => Result.ok (Next.value (Value.int .u64 v)) x) (quoUT x0.hi x1.lo)) | exact quoUT x0.hi x1.lo | exact congrArg _ (quoUT x0.hi x1.lo) | (rw [quoUT x0.hi x1.lo]; done) | (rw [quoUT x0.hi x1.lo]; rfl))) ?_
      simp only [List.set_cons_succ, List.set_cons_zero]
      refine take_val (i := 10) (v := .agg #[.int .u64 (tn (x0.lo / x1.hi)), .int .u64 (tn (x0.hi / x1.lo))]) (st_ups _ _) rfl rfl (by kernel_rfl) (fun _ _ _ h => h) (by rfl) (by intro x hx; go_simp; (first | done | exact rfl)) ?_
      simp only [List.set_cons_succ, List.set_cons_zero]
      refine take_one (i := 11) (by kernel_rfl) (step_store (St w [⟨w.heap.size, [some (.int .u64 (tn (x0.lo))), some (.int .u64 (tn (x0.hi)))], 24⟩, ⟨w.heap.size + 1, [some (.int .u64 (tn (x1.lo))), some (.int .u64 (tn (x1.hi)))], 24⟩, ⟨w.heap.size + 2, [some (.int .u64 (tn (x0.lo / x1.hi))), some (.int .u64 (tn (x0.hi / x1.lo)))], 24⟩]) (st_ups _ _) (fun x h => h.less (less_cons rfl rfl (lessC_eq (lessC_eq (trivial))) (less_cons rfl rfl (lessC_eq (lessC_eq (trivial))) (less_cons rfl rfl (lessC_no (lessC_no (trivial))) (trivial))))) rfl rfl (by rfl) (fun x => ((x.setCell ⟨w.heap.size + 2, 0, none⟩ (.int .u64 (tn (x0.lo / x1.hi)))).setCell ⟨w.heap.size + 2, 1, none⟩ (.int .u64 (tn (x0.hi / x1.lo))))) (by intro x hx; obtain ⟨u0, z0⟩ := hx.has 2 0 rfl (by simp); have q0 := hx.soft 2 0 rfl; obtain ⟨u1, z1⟩ := hx.has 2 1 rfl (by simp); have q1 := hx.soft 2 1 rfl; go_simp; (first | done | rfl)) (fun x hx => ((hx.put 2 0 (.int .u64 (tn (x0.lo / x1.hi))) rfl).put 2 1 (.int .u64 (tn (x0.hi / x1.lo))) rfl)) ?_)
      refine take_done (by kernel_rfl) ?_ _
      intro W3 hx
      replace HS := hid hx
      clear hx
      go_wp2
      have r0 := HS.out.load 2 0 rfl rfl
      have r1 := HS.out.load 2 1 rfl rfl
      have HF : ref_Div x0 x1 = P.mk (x0.lo / x1.hi) (x0.hi / x1.lo) := by
        unfold ref_Div
        rw [cond_f h1.out, cond_f h2.out]
      exact bodyPost_ret (v := .agg #[.int .u64 (tn (x0.lo / x1.hi)), .int .u64 (tn (x0.hi / x1.lo))]) (by simp [results, Try.results32, go_sem, r0, r1]) rfl ⟨(by first | (rw [HF]; done) | (rw [HF]; rfl)), HS.out.below⟩
    · replace h2 := hid h2
      -- region 4
      go_upto_region 4 with fail
      refine lin_begin (St w [⟨w.heap.size, [some (.int .u64 (tn (x0.lo))), some (.int .u64 (tn (x0.hi)))], 24⟩, ⟨w.heap.size + 1, [some (.int .u64 (tn (x1.lo))), some (.int .u64 (tn (x1.hi)))], 24⟩, ⟨w.heap.size + 2, [some (.int .u64 0), some (.int .u64 0)], 24⟩]) rfl HS.out ?_
      refine lin_val (i := 0) (v := .pointer (some ⟨w.heap.size, 1, none⟩)) rfl rfl (by rfl) (by intro x hx; go_simp; (first | done | exact rfl)) ?_
      simp only [List.set_cons_succ, List.set_cons_zero]
      refine lin_val (i := 1) (v := .int .u64 (tn (x0.hi))) rfl rfl (by rfl) (by intro x hx; have f0 := hx.load 0 1 rfl rfl; go_simp; (first | done | exact rfl)) ?_
      simp only [List.set_cons_succ, List.set_cons_zero]
      refine lin_val (i := 2) (v := .agg #[.int .u64 0, .int .u64 (tn (x0.hi))]) rfl rfl (by rfl) (by intro x hx; go_simp; (first | done | exact rfl)) ?_
      simp only [List.set_cons_succ, List.set_cons_zero]
      refine lin_store (i := 3) (St w [⟨w.heap.size, [some (.int .u64 (tn (x0.lo))), some (.int .u64 (tn (x0.hi)))], 24⟩, ⟨w.heap.size + 1, [some (.int .u64 (tn (x1.lo))), some (.int .u64 (tn (x1.hi)))], 24⟩, ⟨w.heap.size + 2, [some (.int .u64 0), some (.int .u64 (tn (x0.hi)))], 24⟩]) rfl rfl (by rfl) (fun x => ((x.setCell ⟨w.heap.size + 2, 0, none⟩ (.int .u64 0)).setCell ⟨w.heap.size + 2, 1, none⟩ (.int .u64 (tn (x0.hi))))) (by intro x hx; obtain ⟨u0, z0⟩ := hx.has 2 0 rfl (by simp); have q0 := hx.soft 2 0 rfl; obtain ⟨u1, z1⟩ := hx.has 2 1 rfl (by simp); have q1 := hx.soft 2 1 rfl; go_simp; (first | done | rfl)) (fun x hx => ((hx.put 2 0 (.int .u64 0) rfl).put 2 1 (.int .u64 (tn (x0.hi))) rfl)) ?_
      refine lin_done ?_
      intro W3 hx
      replace HS := hid hx
      clear hx
      go_wp2
      have r0 := HS.out.load 2 0 rfl rfl
      have r1 := HS.out.load 2 1 rfl rfl
      have HF : ref_Div x0 x1 = P.mk 0#64 x0.hi := by
        unfold ref_Div
        rw [cond_f h1.out, cond_t h2.out]
      exact bodyPost_ret (v := .agg #[.int .u64 0, .int .u64 (tn (x0.hi))]) (by simp [results, Try.results32, go_sem, r0, r1]) rfl ⟨(by first | (rw [HF]; done) | (rw [HF]; rfl)), HS.out.below⟩
  · replace h1 := hid h1
    -- region 2
    go_upto_region 2 with fail
    refine lin_begin (St w [⟨w.heap.size, [some (.int .u64 (tn (x0.lo))), some (.int .u64 (tn (x0.hi)))], 24⟩, ⟨w.heap.size + 1, [some (.int .u64 (tn (x1.lo))), some (.int .u64 (tn (x1.hi)))], 24⟩, ⟨w.heap.size + 2, [some (.int .u64 0), some (.int .u64 0)], 24⟩]) rfl HS.out ?_
    refine lin_call (i := 0) (f := 16) (args := #[.int .u64 (tn (0#64))]) (v := .agg #[.int .u64 (tn (0#64)), .int .u64 (tn (0#64))]) (st_ups _ _) rfl rfl (by rfl) (fun x hx => by kernel_rfl) (by intro x hx; exact ref_Of_any 0#64 _) ?_
    simp only [List.set_cons_succ, List.set_cons_zero]
    refine lin_store (i := 1) (St w [⟨w.heap.size, [some (.int .u64 (tn (x0.lo))), some (.int .u64 (tn (x0.hi)))], 24⟩, ⟨w.heap.size + 1, [some (.int .u64 (tn (x1.lo))), some (.int .u64 (tn (x1.hi)))], 24⟩, ⟨w.heap.size + 2, [some (.int .u64 (tn (0#64))), some (.int .u64 (tn (0#64)))], 24⟩]) rfl rfl (by rfl) (fun x => ((x.setCell ⟨w.heap.size + 2, 0, none⟩ (.int .u64 (tn (0#64)))).setCell ⟨w.heap.size + 2, 1, none⟩ (.int .u64 (tn (0#64))))) (by intro x hx; obtain ⟨u0, z0⟩ := hx.has 2 0 rfl (by simp); have q0 := hx.soft 2 0 rfl; obtain ⟨u1, z1⟩ := hx.has 2 1 rfl (by simp); have q1 := hx.soft 2 1 rfl; go_simp; (first | done | rfl)) (fun x hx => ((hx.put 2 0 (.int .u64 (tn (0#64))) rfl).put 2 1 (.int .u64 (tn (0#64))) rfl)) ?_
    refine lin_done ?_
    intro W2 hx
    replace HS := hid hx
    clear hx
    go_wp2
    have r0 := HS.out.load 2 0 rfl rfl
    have r1 := HS.out.load 2 1 rfl rfl
    have HF : ref_Div x0 x1 = P.mk 0#64 0#64 := by
      unfold ref_Div
      rw [cond_t h1.out]
    exact bodyPost_ret (v := .agg #[.int .u64 (tn (0#64)), .int .u64 (tn (0#64))]) (by simp [results, Try.results32, go_sem, r0, r1]) rfl ⟨(by first | (rw [HF]; done) | (rw [HF]; rfl)), HS.out.below⟩
theorem div_is (a b : P) (h : leU b.lo b.hi = true) : ref_Div a b = span_Div a b := by
  unfold ref_Div span_Div
  rw [eqP_zero h, in_zero]
end Go.Proofs.Ytoojdndfjfmemaa.Sp
