/-
  The contracts of span's calls: products, shifts.
-/
import Derived.Deep.DeepCutAuto
import Derived.Test.YtoojdndfjfmemaaSpB
namespace Go.Proofs.Ytoojdndfjfmemaa.Sp
open Go.RowKit Go.Proofs.Ytoojdndfjfmemaa.Num Go.Proofs.Ytoojdndfjfmemaa.Up
set_option maxRecDepth 100000 in
set_option maxHeartbeats 1000000 in
theorem span_count_any (x0 : BitVec 64)  (w : World) :
    Calls Try.prog 96 #[.int .i64 (ti (x0))] w fun e w' => e = .returned (.int .u64 (tn ((x0 % 64#64)))) ∧ Below w.heap.size w w' := by
  go_enter Try.func96, Try.ntmps96
  have HS := hid (st_nil w)
  -- region 1
  go_upto_region 1 with fail
  refine lin_begin (St w []) rfl HS.out ?_
  refine lin_val (i := 0) (v := .int .i64 (ti (x0))) rfl rfl (by rfl) (by intro x hx; go_simp; (first | done | exact rfl)) ?_
  simp only [List.set_cons_succ, List.set_cons_zero]
  refine lin_val (i := 1) (v := .int .u64 (tn (x0))) rfl rfl (by rfl) (by intro x hx; go_simp; (first | done | exact backI x0 | exact congrArg _ (backI x0) | (rw [backI x0]; done) | (rw [backI x0]; rfl))) ?_
  simp only [List.set_cons_succ, List.set_cons_zero]
  refine lin_val (i := 2) (v := .int .u64 (tn (x0 % 64#64))) rfl rfl (by rfl) (by intro x hx; go_simp; (first | done | exact remUT x0 64#64 | exact congrArg _ (remUT x0 64#64) | (rw [remUT x0 64#64]; done) | (rw [remUT x0 64#64]; rfl))) ?_
  simp only [List.set_cons_succ, List.set_cons_zero]
  refine lin_val (i := 3) (v := .int .u64 (tn (x0 % 64#64))) rfl rfl (by rfl) (by intro x hx; go_simp; (first | done | exact rfl)) ?_
  simp only [List.set_cons_succ, List.set_cons_zero]
  refine lin_done ?_
  intro W1 hx
  replace HS := hid hx
  clear hx
  go_wp2
  exact bodyPost_ret (v := .int .u64 (tn (x0 % 64#64))) (by simp [results, Try.results96, go_sem]) rfl ⟨rfl, HS.out.below⟩
set_option maxRecDepth 100000 in
set_option maxHeartbeats 1000000 in
theorem span_down_uint64_any (x0 : P) (x1 : BitVec 64)  (w : World) :
    Calls Try.prog 98 #[.agg #[.int .u64 (tn (x0.lo)), .int .u64 (tn (x0.hi))], .int .i64 (ti (x1))] w fun e w' => e = .returned (.agg #[.int .u64 (tn (x0.lo >>> (x1 % 64#64).toNat)), .int .u64 (tn (x0.hi >>> (x1 % 64#64).toNat))]) ∧ Below w.heap.size w w' := by
  go_enter Try.func98, Try.ntmps98
  have HS := hid (((st_nil w).alloc (k := w.heap.size) rfl [.int .u64 (tn (x0.lo)), .int .u64 (tn (x0.hi))] 71).alloc (k := w.heap.size + 1) (by simp) [.int .u64 0, .int .u64 0] 71)
  -- region 1
  go_upto_region 1 with fail
  refine up_begin (St w [⟨w.heap.size, [some (.int .u64 (tn (x0.lo))), some (.int .u64 (tn (x0.hi)))], 71⟩, ⟨w.heap.size + 1, [none, none], 71⟩]) 12 rfl (by kernel_rfl) (St.less HS.out.drew (less_cons rfl rfl (lessC_eq (lessC_eq (trivial))) (less_cons rfl rfl (lessC_no (lessC_no (trivial))) (trivial)))) ?_
  refine take_val (i := 0) (v := .pointer (some ⟨w.heap.size, 0, none⟩)) (st_ups _ _) rfl rfl (by kernel_rfl) (fun _ _ _ h => h) (by rfl) (by intro x hx; go_simp; (first | done | exact rfl)) ?_
  simp only [List.set_cons_succ, List.set_cons_zero]
  refine take_val (i := 1) (v := .int .u64 (tn (x0.lo))) (st_ups _ _) rfl rfl (by kernel_rfl) (fun _ _ _ h => h) (by rfl) (by intro x hx; have f0 := hx.load 0 0 rfl rfl; go_simp; (first | done | exact rfl)) ?_
  simp only [List.set_cons_succ, List.set_cons_zero]
  refine take_val (i := 2) (v := .int .i64 (ti (x1))) (st_ups _ _) rfl rfl (by kernel_rfl) (fun _ _ _ h => h) (by rfl) (by intro x hx; go_simp; (first | done | exact rfl)) ?_
  simp only [List.set_cons_succ, List.set_cons_zero]
  refine take_call (i := 3) (f := 96) (args := #[.int .i64 (ti (x1))]) (v := .int .u64 (tn (x1 % 64#64))) (st_ups _ _) rfl rfl (by kernel_rfl) (fun _ _ _ h => h) (by rfl) (fun x hx => by kernel_rfl) (by intro x hx; exact span_count_any x1 _) ?_
  simp only [List.set_cons_succ, List.set_cons_zero]
  refine take_val (i := 4) (v := .int .u64 (tn (x0.lo >>> (x1 % 64#64).toNat))) (st_ups _ _) rfl rfl (by kernel_rfl) (fun _ _ _ h => h) (by rfl) (by intro x hx; have hy := tn_lo (x1 % 64#64); go_simp; (first | done | exact shrUU x0.lo (x1 % 64#64) hy | exact congrArg _ (shrUU x0.lo (x1 % 64#64) hy) | (rw [shrUU x0.lo (x1 % 64#64) hy]; done) | (rw [shrUU x0.lo (x1 % 64#64) hy]; rfl))) ?_
  simp only [List.set_cons_succ, List.set_cons_zero]
  refine take_val (i := 5) (v := .pointer (some ⟨w.heap.size, 1, none⟩)) (st_ups _ _) rfl rfl (by kernel_rfl) (fun _ _ _ h => h) (by rfl) (by intro x hx; go_simp; (first | done | exact rfl)) ?_
  simp only [List.set_cons_succ, List.set_cons_zero]
  refine take_val (i := 6) (v := .int .u64 (tn (x0.hi))) (st_ups _ _) rfl rfl (by kernel_rfl) (fun _ _ _ h => h) (by rfl) (by intro x hx; have f0 := hx.load 0 1 rfl rfl; go_simp; (first | done | exact rfl)) ?_
  simp only [List.set_cons_succ, List.set_cons_zero]
  refine take_val (i := 7) (v := .int .i64 (ti (x1))) (st_ups _ _) rfl rfl (by kernel_rfl) (fun _ _ _ h => h) (by rfl) (by intro x hx; go_simp; (first | done | exact rfl)) ?_
  simp only [List.set_cons_succ, List.set_cons_zero]
  refine take_call (i := 8) (f := 96) (args := #[.int .i64 (ti (x1))]) (v := .int .u64 (tn (x1 % 64#64))) (st_ups _ _) rfl rfl (by kernel_rfl) (fun _ _ _ h => h) (by rfl) (fun x hx => by kernel_rfl) (by intro x hx; exact span_count_any x1 _) ?_
  simp only [List.set_cons_succ, List.set_cons_zero]
  refine take_val (i := 9) (v := .int .u64 (tn (x0.hi >>> (x1 % 64#64).toNat))) (st_ups _ _) rfl rfl (by kernel_rfl) (fun _ _ _ h => h) (by rfl) (by intro x hx; have hy := tn_lo (x1 % 64#64); go_simp; (first | done | exact shrUU x0.hi (x1 % 64#64) hy | exact congrArg _ (shrUU x0.hi (x1 % 64#64) hy) | (rw [shrUU x0.hi (x1 % 64#64) hy]; done) | (rw [shrUU x0.hi (x1 % 64#64) hy]; rfl))) ?_
  simp only [List.set_cons_succ, List.set_cons_zero]
  refine take_val (i := 10) (v := .agg #[.int .u64 (tn (x0.lo >>> (x1 % 64#64).toNat)), .int .u64 (tn (x0.hi >>> (x1 % 64#64).toNat))]) (st_ups _ _) rfl rfl (by kernel_rfl) (fun _ _ _ h => h) (by rfl) (by intro x hx; go_simp; (first | done | exact rfl)) ?_
  simp only [List.set_cons_succ, List.set_cons_zero]
  refine take_one (i := 11) (by kernel_rfl) (step_store (St w [⟨w.heap.size, [some (.int .u64 (tn (x0.lo))), some (.int .u64 (tn (x0.hi)))], 71⟩, ⟨w.heap.size + 1, [some (.int .u64 (tn (x0.lo >>> (x1 % 64#64).toNat))), some (.int .u64 (tn (x0.hi >>> (x1 % 64#64).toNat)))], 71⟩]) (st_ups _ _) (fun x h => h.less (less_cons rfl rfl (lessC_eq (lessC_eq (trivial))) (less_cons rfl rfl (lessC_no (lessC_no (trivial))) (trivial)))) rfl rfl (by rfl) (fun x => ((x.setCell ⟨w.heap.size + 1, 0, none⟩ (.int .u64 (tn (x0.lo >>> (x1 % 64#64).toNat)))).setCell ⟨w.heap.size + 1, 1, none⟩ (.int .u64 (tn (x0.hi >>> (x1 % 64#64).toNat))))) (by intro x hx; obtain ⟨u0, z0⟩ := hx.has 1 0 rfl (by simp); have q0 := hx.soft 1 0 rfl; obtain ⟨u1, z1⟩ := hx.has 1 1 rfl (by simp); have q1 := hx.soft 1 1 rfl; go_simp; (first | done | rfl)) (fun x hx => ((hx.put 1 0 (.int .u64 (tn (x0.lo >>> (x1 % 64#64).toNat))) rfl).put 1 1 (.int .u64 (tn (x0.hi >>> (x1 % 64#64).toNat))) rfl)) ?_)
  refine take_done (by kernel_rfl) ?_ _
  intro W1 hx
  replace HS := hid hx
  clear hx
  go_wp2
  have r0 := HS.out.load 1 0 rfl rfl
  have r1 := HS.out.load 1 1 rfl rfl
  exact bodyPost_ret (v := .agg #[.int .u64 (tn (x0.lo >>> (x1 % 64#64).toNat)), .int .u64 (tn (x0.hi >>> (x1 % 64#64).toNat))]) (by simp [results, Try.results98, go_sem, r0, r1]) rfl ⟨rfl, HS.out.below⟩
set_option maxRecDepth 100000 in
set_option maxHeartbeats 1000000 in
theorem span_Rsh_any (x0 : P) (x1 : BitVec 64)  (w : World) :
    Calls Try.prog 43 #[.agg #[.int .u64 (tn (x0.lo)), .int .u64 (tn (x0.hi))], .int .i64 (ti (x1))] w fun e w' => e = .returned (.agg #[.int .u64 (tn (x0.lo >>> (x1 % 64#64).toNat)), .int .u64 (tn (x0.hi >>> (x1 % 64#64).toNat))]) ∧ Below w.heap.size w w' := by
  go_enter Try.func43, Try.ntmps43
  have HS := hid (((st_nil w).alloc (k := w.heap.size) rfl [.int .u64 (tn (x0.lo)), .int .u64 (tn (x0.hi))] 24).alloc (k := w.heap.size + 1) (by simp) [.int .u64 0, .int .u64 0] 24)
  -- region 1
  go_upto_region 1 with fail
  refine lin_begin (St w [⟨w.heap.size, [some (.int .u64 (tn (x0.lo))), some (.int .u64 (tn (x0.hi)))], 24⟩, ⟨w.heap.size + 1, [some (.int .u64 0), some (.int .u64 0)], 24⟩]) rfl HS.out ?_
  refine lin_val (i := 0) (v := .agg #[.int .u64 (tn (x0.lo)), .int .u64 (tn (x0.hi))]) rfl rfl (by rfl) (by intro x hx; have f0 := hx.load 0 0 rfl rfl; have f1 := hx.load 0 1 rfl rfl; go_simp; (first | done | exact rfl)) ?_
  simp only [List.set_cons_succ, List.set_cons_zero]
  refine lin_call (i := 1) (f := 83) (args := #[.agg #[.int .u64 (tn (x0.lo)), .int .u64 (tn (x0.hi))]]) (v := .agg #[.int .u64 (tn (x0.lo)), .int .u64 (tn (x0.hi))]) (st_ups _ _) rfl rfl (by rfl) (fun x hx => by kernel_rfl) (by intro x hx; exact span_unsigned_any x0 _) ?_
  simp only [List.set_cons_succ, List.set_cons_zero]
  refine lin_val (i := 2) (v := .int .i64 (ti (x1))) rfl rfl (by rfl) (by intro x hx; go_simp; (first | done | exact rfl)) ?_
  simp only [List.set_cons_succ, List.set_cons_zero]
  refine lin_call (i := 3) (f := 98) (args := #[.agg #[.int .u64 (tn (x0.lo)), .int .u64 (tn (x0.hi))], .int .i64 (ti (x1))]) (v := .agg #[.int .u64 (tn (x0.lo >>> (x1 % 64#64).toNat)), .int .u64 (tn (x0.hi >>> (x1 % 64#64).toNat))]) (st_ups _ _) rfl rfl (by rfl) (fun x hx => by kernel_rfl) (by intro x hx; exact span_down_uint64_any x0 x1 _) ?_
  simp only [List.set_cons_succ, List.set_cons_zero]
  refine lin_call (i := 4) (f := 84) (args := #[.agg #[.int .u64 (tn (x0.lo >>> (x1 % 64#64).toNat)), .int .u64 (tn (x0.hi >>> (x1 % 64#64).toNat))]]) (v := .agg #[.int .u64 (tn (x0.lo >>> (x1 % 64#64).toNat)), .int .u64 (tn (x0.hi >>> (x1 % 64#64).toNat))]) (st_ups _ _) rfl rfl (by rfl) (fun x hx => by kernel_rfl) (by intro x hx; exact span_toUnsigned_any (P.mk (x0.lo >>> (x1 % 64#64).toNat) (x0.hi >>> (x1 % 64#64).toNat)) _) ?_
  simp only [List.set_cons_succ, List.set_cons_zero]
  refine lin_store (i := 5) (St w [⟨w.heap.size, [some (.int .u64 (tn (x0.lo))), some (.int .u64 (tn (x0.hi)))], 24⟩, ⟨w.heap.size + 1, [some (.int .u64 (tn (x0.lo >>> (x1 % 64#64).toNat))), some (.int .u64 (tn (x0.hi >>> (x1 % 64#64).toNat)))], 24⟩]) rfl rfl (by rfl) (fun x => ((x.setCell ⟨w.heap.size + 1, 0, none⟩ (.int .u64 (tn (x0.lo >>> (x1 % 64#64).toNat)))).setCell ⟨w.heap.size + 1, 1, none⟩ (.int .u64 (tn (x0.hi >>> (x1 % 64#64).toNat))))) (by intro x hx; obtain ⟨u0, z0⟩ := hx.has 1 0 rfl (by simp); have q0 := hx.soft 1 0 rfl; obtain ⟨u1, z1⟩ := hx.has 1 1 rfl (by simp); have q1 := hx.soft 1 1 rfl; go_simp; (first | done | rfl)) (fun x hx => ((hx.put 1 0 (.int .u64 (tn (x0.lo >>> (x1 % 64#64).toNat))) rfl).put 1 1 (.int .u64 (tn (x0.hi >>> (x1 % 64#64).toNat))) rfl)) ?_
  refine lin_done ?_
  intro W1 hx
  replace HS := hid hx
  clear hx
  go_wp2
  have r0 := HS.out.load 1 0 rfl rfl
  have r1 := HS.out.load 1 1 rfl rfl
  exact bodyPost_ret (v := .agg #[.int .u64 (tn (x0.lo >>> (x1 % 64#64).toNat)), .int .u64 (tn (x0.hi >>> (x1 % 64#64).toNat))]) (by simp [results, Try.results43, go_sem, r0, r1]) rfl ⟨rfl, HS.out.below⟩
def span_down_int64 (x0 : P) (x1 : BitVec 64) : P :=
  P.mk (BitVec.sshiftRight x0.lo (x1 % 64#64).toNat) (BitVec.sshiftRight x0.hi (x1 % 64#64).toNat)
set_option maxRecDepth 100000 in
set_option maxHeartbeats 1000000 in
theorem span_down_int64_any (x0 : P) (x1 : BitVec 64)  (w : World) :
    Calls Try.prog 110 #[.agg #[.int .i64 (ti (x0.lo)), .int .i64 (ti (x0.hi))], .int .i64 (ti (x1))] w fun e w' => e = .returned (.agg #[.int .i64 (ti ((span_down_int64 x0 x1).lo)), .int .i64 (ti ((span_down_int64 x0 x1).hi))]) ∧ Below w.heap.size w w' := by
  go_enter Try.func110, Try.ntmps110
  have HS := hid (((st_nil w).alloc (k := w.heap.size) rfl [.int .i64 (ti (x0.lo)), .int .i64 (ti (x0.hi))] 92).alloc (k := w.heap.size + 1) (by simp) [.int .i64 0, .int .i64 0] 92)
  -- region 1
  go_upto_region 1 with fail
  refine up_begin (St w [⟨w.heap.size, [some (.int .i64 (ti (x0.lo))), some (.int .i64 (ti (x0.hi)))], 92⟩, ⟨w.heap.size + 1, [none, none], 92⟩]) 12 rfl (by kernel_rfl) (St.less HS.out.drew (less_cons rfl rfl (lessC_eq (lessC_eq (trivial))) (less_cons rfl rfl (lessC_no (lessC_no (trivial))) (trivial)))) ?_
  refine take_val (i := 0) (v := .pointer (some ⟨w.heap.size, 0, none⟩)) (st_ups _ _) rfl rfl (by kernel_rfl) (fun _ _ _ h => h) (by rfl) (by intro x hx; go_simp; (first | done | exact rfl)) ?_
  simp only [List.set_cons_succ, List.set_cons_zero]
  refine take_val (i := 1) (v := .int .i64 (ti (x0.lo))) (st_ups _ _) rfl rfl (by kernel_rfl) (fun _ _ _ h => h) (by rfl) (by intro x hx; have f0 := hx.load 0 0 rfl rfl; go_simp; (first | done | exact rfl)) ?_
  simp only [List.set_cons_succ, List.set_cons_zero]
  refine take_val (i := 2) (v := .int .i64 (ti (x1))) (st_ups _ _) rfl rfl (by kernel_rfl) (fun _ _ _ h => h) (by rfl) (by intro x hx; go_simp; (first | done | exact rfl)) ?_
  simp only [List.set_cons_succ, List.set_cons_zero]
  refine take_call (i := 3) (f := 96) (args := #[.int .i64 (ti (x1))]) (v := .int .u64 (tn (x1 % 64#64))) (st_ups _ _) rfl rfl (by kernel_rfl) (fun _ _ _ h => h) (by rfl) (fun x hx => by kernel_rfl) (by intro x hx; exact span_count_any x1 _) ?_
  simp only [List.set_cons_succ, List.set_cons_zero]
  refine take_val (i := 4) (v := .int .i64 (ti (BitVec.sshiftRight x0.lo (x1 % 64#64).toNat))) (st_ups _ _) rfl rfl (by kernel_rfl) (fun _ _ _ h => h) (by rfl) (by intro x hx; have hy := tn_lo (x1 % 64#64); go_simp; (first | done | exact shrIU x0.lo (x1 % 64#64) hy | exact congrArg _ (shrIU x0.lo (x1 % 64#64) hy) | (rw [shrIU x0.lo (x1 % 64#64) hy]; done) | (rw [shrIU x0.lo (x1 % 64#64) hy]; rfl))) ?_
  simp only [List.set_cons_succ, List.set_cons_zero]
  refine take_val (i := 5) (v := .pointer (some ⟨w.heap.size, 1, none⟩)) (st_ups _ _) rfl rfl (by kernel_rfl) (fun _ _ _ h => h) (by rfl) (by intro x hx; go_simp; (first | done | exact rfl)) ?_
  simp only [List.set_cons_succ, List.set_cons_zero]
  refine take_val (i := 6) (v := .int .i64 (ti (x0.hi))) (st_ups _ _) rfl rfl (by kernel_rfl) (fun _ _ _ h => h) (by rfl) (by intro x hx; have f0 := hx.load 0 1 rfl rfl; go_simp; (first | done | exact rfl)) ?_
  simp only [List.set_cons_succ, List.set_cons_zero]
  refine take_val (i := 7) (v := .int .i64 (ti (x1))) (st_ups _ _) rfl rfl (by kernel_rfl) (fun _ _ _ h => h) (by rfl) (by intro x hx; go_simp; (first | done | exact rfl)) ?_
  simp only [List.set_cons_succ, List.set_cons_zero]
  refine take_call (i := 8) (f := 96) (args := #[.int .i64 (ti (x1))]) (v := .int .u64 (tn (x1 % 64#64))) (st_ups _ _) rfl rfl (by kernel_rfl) (fun _ _ _ h => h) (by rfl) (fun x hx => by kernel_rfl) (by intro x hx; exact span_count_any x1 _) ?_
  simp only [List.set_cons_succ, List.set_cons_zero]
  refine take_val (i := 9) (v := .int .i64 (ti (BitVec.sshiftRight x0.hi (x1 % 64#64).toNat))) (st_ups _ _) rfl rfl (by kernel_rfl) (fun _ _ _ h => h) (by rfl) (by intro x hx; have hy := tn_lo (x1 % 64#64); go_simp; (first | done | exact shrIU x0.hi (x1 % 64#64) hy | exact congrArg _ (shrIU x0.hi (x1 % 64#64) hy) | (rw [shrIU x0.hi (x1 % 64#64) hy]; done) | (rw [shrIU x0.hi (x1 % 64#64) hy]; rfl))) ?_
  simp only [List.set_cons_succ, List.set_cons_zero]
  refine take_val (i := 10) (v := .agg #[.int .i64 (ti (BitVec.sshiftRight x0.lo (x1 % 64#64).toNat)), .int .i64 (ti (BitVec.sshiftRight x0.hi (x1 % 64#64).toNat))]) (st_ups _ _) rfl rfl (by kernel_rfl) (fun _ _ _ h => h) (by rfl) (by intro x hx; go_simp; (first | done | exact rfl)) ?_
  simp only [List.set_cons_succ, List.set_cons_zero]
  refine take_one (i := 11) (by kernel_rfl) (step_store (St w [⟨w.heap.size, [some (.int .i64 (ti (x0.lo))), some (.int .i64 (ti (x0.hi)))], 92⟩, ⟨w.heap.size + 1, [some (.int .i64 (ti (BitVec.sshiftRight x0.lo (x1 % 64#64).toNat))), some (.int .i64 (ti (BitVec.sshiftRight x0.hi (x1 % 64#64).toNat)))], 92⟩]) (st_ups _ _) (fun x h => h.less (less_cons rfl rfl (lessC_eq (lessC_eq (trivial))) (less_cons rfl rfl (lessC_no (lessC_no (trivial))) (trivial)))) rfl rfl (by rfl) (fun x => ((x.setCell ⟨w.heap.size + 1, 0, none⟩ (.int .i64 (ti (BitVec.sshiftRight x0.lo (x1 % 64#64).toNat)))).setCell ⟨w.heap.size + 1, 1, none⟩ (.int .i64 (ti (BitVec.sshiftRight x0.hi (x1 % 64#64).toNat))))) (by intro x hx; obtain ⟨u0, z0⟩ := hx.has 1 0 rfl (by simp); have q0 := hx.soft 1 0 rfl; obtain ⟨u1, z1⟩ := hx.has 1 1 rfl (by simp); have q1 := hx.soft 1 1 rfl; go_simp; (first | done | rfl)) (fun x hx => ((hx.put 1 0 (.int .i64 (ti (BitVec.sshiftRight x0.lo (x1 % 64#64).toNat))) rfl).put 1 1 (.int .i64 (ti (BitVec.sshiftRight x0.hi (x1 % 64#64).toNat))) rfl)) ?_)
  refine take_done (by kernel_rfl) ?_ _
  intro W1 hx
  replace HS := hid hx
  clear hx
  go_wp2
  have r0 := HS.out.load 1 0 rfl rfl
  have r1 := HS.out.load 1 1 rfl rfl
  have HF : span_down_int64 x0 x1 = P.mk (BitVec.sshiftRight x0.lo (x1 % 64#64).toNat) (BitVec.sshiftRight x0.hi (x1 % 64#64).toNat) := by
    unfold span_down_int64
    rfl
  exact bodyPost_ret (v := .agg #[.int .i64 (ti (BitVec.sshiftRight x0.lo (x1 % 64#64).toNat)), .int .i64 (ti (BitVec.sshiftRight x0.hi (x1 % 64#64).toNat))]) (by simp [results, Try.results110, go_sem, r0, r1]) rfl ⟨(by first | (rw [HF]; done) | (rw [HF]; rfl)), HS.out.below⟩
set_option maxRecDepth 100000 in
set_option maxHeartbeats 1000000 in
theorem span_Sarsh_any (x0 : P) (x1 : BitVec 64)  (w : World) :
    Calls Try.prog 64 #[.agg #[.int .i64 (ti (x0.lo)), .int .i64 (ti (x0.hi))], .int .i64 (ti (x1))] w fun e w' => e = .returned (.agg #[.int .i64 (ti ((span_down_int64 x0 x1).lo)), .int .i64 (ti ((span_down_int64 x0 x1).hi))]) ∧ Below w.heap.size w w' := by
  go_enter Try.func64, Try.ntmps64
  have HS := hid (((st_nil w).alloc (k := w.heap.size) rfl [.int .i64 (ti (x0.lo)), .int .i64 (ti (x0.hi))] 38).alloc (k := w.heap.size + 1) (by simp) [.int .i64 0, .int .i64 0] 38)
  -- region 1
  go_upto_region 1 with fail
  refine lin_begin (St w [⟨w.heap.size, [some (.int .i64 (ti (x0.lo))), some (.int .i64 (ti (x0.hi)))], 38⟩, ⟨w.heap.size + 1, [some (.int .i64 0), some (.int .i64 0)], 38⟩]) rfl HS.out ?_
  refine lin_val (i := 0) (v := .agg #[.int .i64 (ti (x0.lo)), .int .i64 (ti (x0.hi))]) rfl rfl (by rfl) (by intro x hx; have f0 := hx.load 0 0 rfl rfl; have f1 := hx.load 0 1 rfl rfl; go_simp; (first | done | exact rfl)) ?_
  simp only [List.set_cons_succ, List.set_cons_zero]
  refine lin_call (i := 1) (f := 100) (args := #[.agg #[.int .i64 (ti (x0.lo)), .int .i64 (ti (x0.hi))]]) (v := .agg #[.int .i64 (ti (x0.lo)), .int .i64 (ti (x0.hi))]) (st_ups _ _) rfl rfl (by rfl) (fun x hx => by kernel_rfl) (by intro x hx; exact span_signed_any x0 _) ?_
  simp only [List.set_cons_succ, List.set_cons_zero]
  refine lin_val (i := 2) (v := .int .i64 (ti (x1))) rfl rfl (by rfl) (by intro x hx; go_simp; (first | done | exact rfl)) ?_
  simp only [List.set_cons_succ, List.set_cons_zero]
  refine lin_call (i := 3) (f := 110) (args := #[.agg #[.int .i64 (ti (x0.lo)), .int .i64 (ti (x0.hi))], .int .i64 (ti (x1))]) (v := .agg #[.int .i64 (ti ((span_down_int64 x0 x1).lo)), .int .i64 (ti ((span_down_int64 x0 x1).hi))]) (st_ups _ _) rfl rfl (by rfl) (fun x hx => by kernel_rfl) (by intro x hx; exact span_down_int64_any x0 x1 _) ?_
  simp only [List.set_cons_succ, List.set_cons_zero]
  refine lin_call (i := 4) (f := 101) (args := #[.agg #[.int .i64 (ti ((span_down_int64 x0 x1).lo)), .int .i64 (ti ((span_down_int64 x0 x1).hi))]]) (v := .agg #[.int .i64 (ti ((span_down_int64 x0 x1).lo)), .int .i64 (ti ((span_down_int64 x0 x1).hi))]) (st_ups _ _) rfl rfl (by rfl) (fun x hx => by kernel_rfl) (by intro x hx; exact span_toSigned_any (span_down_int64 x0 x1) _) ?_
  simp only [List.set_cons_succ, List.set_cons_zero]
  refine lin_store (i := 5) (St w [⟨w.heap.size, [some (.int .i64 (ti (x0.lo))), some (.int .i64 (ti (x0.hi)))], 38⟩, ⟨w.heap.size + 1, [some (.int .i64 (ti ((span_down_int64 x0 x1).lo))), some (.int .i64 (ti ((span_down_int64 x0 x1).hi)))], 38⟩]) rfl rfl (by rfl) (fun x => ((x.setCell ⟨w.heap.size + 1, 0, none⟩ (.int .i64 (ti ((span_down_int64 x0 x1).lo)))).setCell ⟨w.heap.size + 1, 1, none⟩ (.int .i64 (ti ((span_down_int64 x0 x1).hi))))) (by intro x hx; obtain ⟨u0, z0⟩ := hx.has 1 0 rfl (by simp); have q0 := hx.soft 1 0 rfl; obtain ⟨u1, z1⟩ := hx.has 1 1 rfl (by simp); have q1 := hx.soft 1 1 rfl; go_simp; (first | done | rfl)) (fun x hx => ((hx.put 1 0 (.int .i64 (ti ((span_down_int64 x0 x1).lo))) rfl).put 1 1 (.int .i64 (ti ((span_down_int64 x0 x1).hi))) rfl)) ?_
  refine lin_done ?_
  intro W1 hx
  replace HS := hid hx
  clear hx
  go_wp2
  have r0 := HS.out.load 1 0 rfl rfl
  have r1 := HS.out.load 1 1 rfl rfl
  exact bodyPost_ret (v := .agg #[.int .i64 (ti ((span_down_int64 x0 x1).lo)), .int .i64 (ti ((span_down_int64 x0 x1).hi))]) (by simp [results, Try.results64, go_sem, r0, r1]) rfl ⟨rfl, HS.out.below⟩
def span_Cut (x0 : P) : P :=
  bif gtU (x0.hi - x0.lo) 4294967295#64 then (P.mk 0#64 4294967295#64) else (bif gtW (BitVec.setWidth 32 x0.lo) (BitVec.setWidth 32 x0.hi) then (P.mk 0#64 4294967295#64) else (P.mk (BitVec.setWidth 64 (BitVec.setWidth 32 x0.lo)) (BitVec.setWidth 64 (BitVec.setWidth 32 x0.hi))))
set_option maxRecDepth 100000 in
set_option maxHeartbeats 1000000 in
theorem span_Cut_any (x0 : P)  (w : World) :
    Calls Try.prog 45 #[.agg #[.int .u64 (tn (x0.lo)), .int .u64 (tn (x0.hi))]] w fun e w' => e = .returned (.agg #[.int .u64 (tn ((span_Cut x0).lo)), .int .u64 (tn ((span_Cut x0).hi))]) ∧ Below w.heap.size w w' := by
  go_enter Try.func45, Try.ntmps45
  have HS := hid (((st_nil w).alloc (k := w.heap.size) rfl [.int .u64 (tn (x0.lo)), .int .u64 (tn (x0.hi))] 24).alloc (k := w.heap.size + 1) (by simp) [.int .u64 0, .int .u64 0] 24)
  -- region 1
  go_upto_region 1 with fail
  refine up_begin (St w [⟨w.heap.size, [some (.int .u64 (tn (x0.lo))), some (.int .u64 (tn (x0.hi)))], 24⟩, ⟨w.heap.size + 1, [some (.int .u64 0), some (.int .u64 0)], 24⟩]) 8 rfl (by kernel_rfl) (HS.out.drew) ?_
  refine take_val (i := 0) (v := .pointer (some ⟨w.heap.size, 0, none⟩)) (st_ups _ _) rfl rfl (by kernel_rfl) (fun _ _ _ h => h) (by rfl) (by intro x hx; go_simp; (first | done | exact rfl)) ?_
  simp only [List.set_cons_succ, List.set_cons_zero]
  refine take_val (i := 1) (v := .int .u64 (tn (x0.lo))) (st_ups _ _) rfl rfl (by kernel_rfl) (fun _ _ _ h => h) (by rfl) (by intro x hx; have f0 := hx.load 0 0 rfl rfl; go_simp; (first | done | exact rfl)) ?_
  simp only [List.set_cons_succ, List.set_cons_zero]
  refine take_val (i := 2) (v := .int .u32 (tn (BitVec.setWidth 32 x0.lo))) (st_ups _ _) rfl rfl (by kernel_rfl) (fun _ _ _ h => h) (by rfl) (by intro x hx; go_simp; (first | done | exact cutU64 x0.lo | exact congrArg _ (cutU64 x0.lo) | (rw [cutU64 x0.lo]; done) | (rw [cutU64 x0.lo]; rfl))) ?_
  simp only [List.set_cons_succ, List.set_cons_zero]
  refine take_val (i := 3) (v := .pointer (some ⟨w.heap.size, 1, none⟩)) (st_ups _ _) rfl rfl (by kernel_rfl) (fun _ _ _ h => h) (by rfl) (by intro x hx; go_simp; (first | done | exact rfl)) ?_
  simp only [List.set_cons_succ, List.set_cons_zero]
  refine take_val (i := 4) (v := .int .u64 (tn (x0.hi))) (st_ups _ _) rfl rfl (by kernel_rfl) (fun _ _ _ h => h) (by rfl) (by intro x hx; have f0 := hx.load 0 1 rfl rfl; go_simp; (first | done | exact rfl)) ?_
  simp only [List.set_cons_succ, List.set_cons_zero]
  refine take_val (i := 5) (v := .int .u32 (tn (BitVec.setWidth 32 x0.hi))) (st_ups _ _) rfl rfl (by kernel_rfl) (fun _ _ _ h => h) (by rfl) (by intro x hx; go_simp; (first | done | exact cutU64 x0.hi | exact congrArg _ (cutU64 x0.hi) | (rw [cutU64 x0.hi]; done) | (rw [cutU64 x0.hi]; rfl))) ?_
  simp only [List.set_cons_succ, List.set_cons_zero]
  refine take_val (i := 6) (v := .int .u32 (tn (BitVec.setWidth 32 x0.lo))) (st_ups _ _) rfl rfl (by kernel_rfl) (fun _ _ _ h => h) (by rfl) (by intro x hx; go_simp; (first | done | exact rfl)) ?_
  simp only [List.set_cons_succ, List.set_cons_zero]
  refine take_val (i := 7) (v := .int .u32 (tn (BitVec.setWidth 32 x0.hi))) (st_ups _ _) rfl rfl (by kernel_rfl) (fun _ _ _ h => h) (by rfl) (by intro x hx; go_simp; (first | done | exact rfl)) ?_
  simp only [List.set_cons_succ, List.set_cons_zero]
  refine take_done (by kernel_rfl) ?_ _
  intro W1 hx
  replace HS := hid hx
  clear hx
  -- region 2
  go_upto_region 2 with fail
  refine lin_begin (St w [⟨w.heap.size, [some (.int .u64 (tn (x0.lo))), some (.int .u64 (tn (x0.hi)))], 24⟩, ⟨w.heap.size + 1, [some (.int .u64 0), some (.int .u64 0)], 24⟩]) rfl HS.out ?_
  refine lin_val (i := 0) (v := .pointer (some ⟨w.heap.size, 1, none⟩)) rfl rfl (by rfl) (by intro x hx; go_simp; (first | done | exact rfl)) ?_
  simp only [List.set_cons_succ, List.set_cons_zero]
  refine lin_val (i := 1) (v := .int .u64 (tn (x0.hi))) rfl rfl (by rfl) (by intro x hx; have f0 := hx.load 0 1 rfl rfl; go_simp; (first | done | exact rfl)) ?_
  simp only [List.set_cons_succ, List.set_cons_zero]
  refine lin_val (i := 2) (v := .pointer (some ⟨w.heap.size, 0, none⟩)) rfl rfl (by rfl) (by intro x hx; go_simp; (first | done | exact rfl)) ?_
  simp only [List.set_cons_succ, List.set_cons_zero]
  refine lin_val (i := 3) (v := .int .u64 (tn (x0.lo))) rfl rfl (by rfl) (by intro x hx; have f0 := hx.load 0 0 rfl rfl; go_simp; (first | done | exact rfl)) ?_
  simp only [List.set_cons_succ, List.set_cons_zero]
  refine lin_val (i := 4) (v := .int .u64 (tn (x0.hi - x0.lo))) rfl rfl (by rfl) (by intro x hx; go_simp; (first | done | exact subUT x0.hi x0.lo | exact congrArg _ (subUT x0.hi x0.lo) | (rw [subUT x0.hi x0.lo]; done) | (rw [subUT x0.hi x0.lo]; rfl))) ?_
  simp only [List.set_cons_succ, List.set_cons_zero]
  refine lin_val (i := 5) (v := .bool (gtU (x0.hi - x0.lo) 4294967295#64)) rfl rfl (by rfl) (by intro x hx; go_simp; (first | done | exact gtUT (x0.hi - x0.lo) 4294967295#64 | exact congrArg _ (gtUT (x0.hi - x0.lo) 4294967295#64) | (rw [gtUT (x0.hi - x0.lo) 4294967295#64]; done) | (rw [gtUT (x0.hi - x0.lo) 4294967295#64]; rfl))) ?_
  simp only [List.set_cons_succ, List.set_cons_zero]
  refine lin_val (i := 6) (v := .bool (gtU (x0.hi - x0.lo) 4294967295#64)) rfl rfl (by rfl) (by intro x hx; go_simp; (first | done | exact rfl)) ?_
  simp only [List.set_cons_succ, List.set_cons_zero]
  cases h1 : (gtU (x0.hi - x0.lo) 4294967295#64)
  · replace h1 := hid h1
    refine lin_val (i := 7) (v := .int .u32 (tn (BitVec.setWidth 32 x0.lo))) rfl rfl (by rfl) (by intro x hx; go_simp; (first | done | exact rfl)) ?_
    simp only [List.set_cons_succ, List.set_cons_zero]
    refine lin_val (i := 8) (v := .int .u32 (tn (BitVec.setWidth 32 x0.hi))) rfl rfl (by rfl) (by intro x hx; go_simp; (first | done | exact rfl)) ?_
    simp only [List.set_cons_succ, List.set_cons_zero]
    refine lin_val (i := 9) (v := .bool (gtW (BitVec.setWidth 32 x0.lo) (BitVec.setWidth 32 x0.hi))) rfl rfl (by rfl) (by intro x hx; go_simp; (first | done | exact gtWT (BitVec.setWidth 32 x0.lo) (BitVec.setWidth 32 x0.hi) | exact congrArg _ (gtWT (BitVec.setWidth 32 x0.lo) (BitVec.setWidth 32 x0.hi)) | (rw [gtWT (BitVec.setWidth 32 x0.lo) (BitVec.setWidth 32 x0.hi)]; done) | (rw [gtWT (BitVec.setWidth 32 x0.lo) (BitVec.setWidth 32 x0.hi)]; rfl))) ?_
    simp only [List.set_cons_succ, List.set_cons_zero]
    refine lin_val (i := 10) (v := .bool (gtW (BitVec.setWidth 32 x0.lo) (BitVec.setWidth 32 x0.hi))) rfl rfl (by rfl) (by intro x hx; go_simp; (first | done | exact rfl)) ?_
    simp only [List.set_cons_succ, List.set_cons_zero]
    refine lin_done ?_
    intro W2 hx
    replace HS := hid hx
    clear hx
    cases h2 : (gtW (BitVec.setWidth 32 x0.lo) (BitVec.setWidth 32 x0.hi))
    · replace h2 := hid h2
      -- region 4
      go_upto_region 4 with fail
      refine lin_begin (St w [⟨w.heap.size, [some (.int .u64 (tn (x0.lo))), some (.int .u64 (tn (x0.hi)))], 24⟩, ⟨w.heap.size + 1, [some (.int .u64 0), some (.int .u64 0)], 24⟩]) rfl HS.out ?_
      refine lin_val (i := 0) (v := .int .u32 (tn (BitVec.setWidth 32 x0.lo))) rfl rfl (by rfl) (by intro x hx; go_simp; (first | done | exact rfl)) ?_
      simp only [List.set_cons_succ, List.set_cons_zero]
      refine lin_val (i := 1) (v := .int .u64 (tn (BitVec.setWidth 64 (BitVec.setWidth 32 x0.lo)))) rfl rfl (by rfl) (by intro x hx; go_simp; (first | done | exact wide32 (BitVec.setWidth 32 x0.lo) | exact congrArg _ (wide32 (BitVec.setWidth 32 x0.lo)) | (rw [wide32 (BitVec.setWidth 32 x0.lo)]; done) | (rw [wide32 (BitVec.setWidth 32 x0.lo)]; rfl))) ?_
      simp only [List.set_cons_succ, List.set_cons_zero]
      refine lin_val (i := 2) (v := .int .u32 (tn (BitVec.setWidth 32 x0.hi))) rfl rfl (by rfl) (by intro x hx; go_simp; (first | done | exact rfl)) ?_
      simp only [List.set_cons_succ, List.set_cons_zero]
      refine lin_val (i := 3) (v := .int .u64 (tn (BitVec.setWidth 64 (BitVec.setWidth 32 x0.hi)))) rfl rfl (by rfl) (by intro x hx; go_simp; (first | done | exact wide32 (BitVec.setWidth 32 x0.hi) | exact congrArg _ (wide32 (BitVec.setWidth 32 x0.hi)) | (rw [wide32 (BitVec.setWidth 32 x0.hi)]; done) | (rw [wide32 (BitVec.setWidth 32 x0.hi)]; rfl))) ?_
      simp only [List.set_cons_succ, List.set_cons_zero]
      refine lin_val (i := 4) (v := .agg #[.int .u64 (tn (BitVec.setWidth 64 (BitVec.setWidth 32 x0.lo))), .int .u64 (tn (BitVec.setWidth 64 (BitVec.setWidth 32 x0.hi)))]) rfl rfl (by rfl) (by intro x hx; go_simp; (first | done | exact rfl)) ?_
      simp only [List.set_cons_succ, List.set_cons_zero]
      refine lin_store (i := 5) (St w [⟨w.heap.size, [some (.int .u64 (tn (x0.lo))), some (.int .u64 (tn (x0.hi)))], 24⟩, ⟨w.heap.size + 1, [some (.int .u64 (tn (BitVec.setWidth 64 (BitVec.setWidth 32 x0.lo)))), some (.int .u64 (tn (BitVec.setWidth 64 (BitVec.setWidth 32 x0.hi))))], 24⟩]) rfl rfl (by rfl) (fun x => ((x.setCell ⟨w.heap.size + 1, 0, none⟩ (.int .u64 (tn (BitVec.setWidth 64 (BitVec.setWidth 32 x0.lo))))).setCell ⟨w.heap.size + 1, 1, none⟩ (.int .u64 (tn (BitVec.setWidth 64 (BitVec.setWidth 32 x0.hi)))))) (by intro x hx; obtain ⟨u0, z0⟩ := hx.has 1 0 rfl (by simp); have q0 := hx.soft 1 0 rfl; obtain ⟨u1, z1⟩ := hx.has 1 1 rfl (by simp); have q1 := hx.soft 1 1 rfl; go_simp; (first | done | rfl)) (fun x hx => ((hx.put 1 0 (.int .u64 (tn (BitVec.setWidth 64 (BitVec.setWidth 32 x0.lo)))) rfl).put 1 1 (.int .u64 (tn (BitVec.setWidth 64 (BitVec.setWidth 32 x0.hi)))) rfl)) ?_
      refine lin_done ?_
      intro W3 hx
      replace HS := hid hx
      clear hx
      go_wp2
      have r0 := HS.out.load 1 0 rfl rfl
      have r1 := HS.out.load 1 1 rfl rfl
      have HF : span_Cut x0 = P.mk (BitVec.setWidth 64 (BitVec.setWidth 32 x0.lo)) (BitVec.setWidth 64 (BitVec.setWidth 32 x0.hi)) := by
        unfold span_Cut
        rw [cond_f h1.out, cond_f h2.out]
      exact bodyPost_ret (v := .agg #[.int .u64 (tn (BitVec.setWidth 64 (BitVec.setWidth 32 x0.lo))), .int .u64 (tn (BitVec.setWidth 64 (BitVec.setWidth 32 x0.hi)))]) (by simp [results, Try.results45, go_sem, r0, r1]) rfl ⟨(by first | (rw [HF]; done) | (rw [HF]; rfl)), HS.out.below⟩
    · replace h2 := hid h2
      -- region 3
      go_upto_region 3 with fail
      refine lin_begin (St w [⟨w.heap.size, [some (.int .u64 (tn (x0.lo))), some (.int .u64 (tn (x0.hi)))], 24⟩, ⟨w.heap.size + 1, [some (.int .u64 0), some (.int .u64 0)], 24⟩]) rfl HS.out ?_
      refine lin_val (i := 0) (v := .agg #[.int .u64 0, .int .u64 4294967295]) rfl rfl (by rfl) (by intro x hx; go_simp; (first | done | exact rfl)) ?_
      simp only [List.set_cons_succ, List.set_cons_zero]
      refine lin_store (i := 1) (St w [⟨w.heap.size, [some (.int .u64 (tn (x0.lo))), some (.int .u64 (tn (x0.hi)))], 24⟩, ⟨w.heap.size + 1, [some (.int .u64 0), some (.int .u64 4294967295)], 24⟩]) rfl rfl (by rfl) (fun x => ((x.setCell ⟨w.heap.size + 1, 0, none⟩ (.int .u64 0)).setCell ⟨w.heap.size + 1, 1, none⟩ (.int .u64 4294967295))) (by intro x hx; obtain ⟨u0, z0⟩ := hx.has 1 0 rfl (by simp); have q0 := hx.soft 1 0 rfl; obtain ⟨u1, z1⟩ := hx.has 1 1 rfl (by simp); have q1 := hx.soft 1 1 rfl; go_simp; (first | done | rfl)) (fun x hx => ((hx.put 1 0 (.int .u64 0) rfl).put 1 1 (.int .u64 4294967295) rfl)) ?_
      refine lin_done ?_
      intro W3 hx
      replace HS := hid hx
      clear hx
      go_wp2
      have r0 := HS.out.load 1 0 rfl rfl
      have r1 := HS.out.load 1 1 rfl rfl
      have HF : span_Cut x0 = P.mk 0#64 4294967295#64 := by
        unfold span_Cut
        rw [cond_f h1.out, cond_t h2.out]
      exact bodyPost_ret (v := .agg #[.int .u64 0, .int .u64 4294967295]) (by simp [results, Try.results45, go_sem, r0, r1]) rfl ⟨(by first | (rw [HF]; done) | (rw [HF]; rfl)), HS.out.below⟩
  · replace h1 := hid h1
    refine lin_no (i := 7) rfl rfl (by kernel_rfl) ?_
    simp only [List.set_cons_succ, List.set_cons_zero]
    refine lin_no (i := 8) rfl rfl (by kernel_rfl) ?_
    simp only [List.set_cons_succ, List.set_cons_zero]
    refine lin_no (i := 9) rfl rfl (by kernel_rfl) ?_
    simp only [List.set_cons_succ, List.set_cons_zero]
    refine lin_val (i := 10) (v := .bool true) rfl rfl (by rfl) (by intro x hx; go_simp; (first | done | exact rfl)) ?_
    simp only [List.set_cons_succ, List.set_cons_zero]
    refine lin_done ?_
    intro W2 hx
    replace HS := hid hx
    clear hx
    -- region 3
    go_upto_region 3 with fail
    refine lin_begin (St w [⟨w.heap.size, [some (.int .u64 (tn (x0.lo))), some (.int .u64 (tn (x0.hi)))], 24⟩, ⟨w.heap.size + 1, [some (.int .u64 0), some (.int .u64 0)], 24⟩]) rfl HS.out ?_
    refine lin_val (i := 0) (v := .agg #[.int .u64 0, .int .u64 4294967295]) rfl rfl (by rfl) (by intro x hx; go_simp; (first | done | exact rfl)) ?_
    simp only [List.set_cons_succ, List.set_cons_zero]
    refine lin_store (i := 1) (St w [⟨w.heap.size, [some (.int .u64 (tn (x0.lo))), some (.int .u64 (tn (x0.hi)))], 24⟩, ⟨w.heap.size + 1, [some (.int .u64 0), some (.int .u64 4294967295)], 24⟩]) rfl rfl (by rfl) (fun x => ((x.setCell ⟨w.heap.size + 1, 0, none⟩ (.int .u64 0)).setCell ⟨w.heap.size + 1, 1, none⟩ (.int .u64 4294967295))) (by intro x hx; obtain ⟨u0, z0⟩ := hx.has 1 0 rfl (by simp); have q0 := hx.soft 1 0 rfl; obtain ⟨u1, z1⟩ := hx.has 1 1 rfl (by simp); have q1 := hx.soft 1 1 rfl; go_simp; (first | done | rfl)) (fun x hx => ((hx.put 1 0 (.int .u64 0) rfl).put 1 1 (.int .u64 4294967295) rfl)) ?_
    refine lin_done ?_
    intro W3 hx
    replace HS := hid hx
    clear hx
    go_wp2
    have r0 := HS.out.load 1 0 rfl rfl
    have r1 := HS.out.load 1 1 rfl rfl
    have HF : span_Cut x0 = P.mk 0#64 4294967295#64 := by
      unfold span_Cut
      rw [cond_t h1.out]
    exact bodyPost_ret (v := .agg #[.int .u64 0, .int .u64 4294967295]) (by simp [results, Try.results45, go_sem, r0, r1]) rfl ⟨(by first | (rw [HF]; done) | (rw [HF]; rfl)), HS.out.below⟩
set_option maxRecDepth 100000 in
set_option maxHeartbeats 1000000 in
theorem span_And_any (x0 : P) (x1 : P)  (w : World) :
    Calls Try.prog 35 #[.agg #[.int .u64 (tn (x0.lo)), .int .u64 (tn (x0.hi))], .agg #[.int .u64 (tn (x1.lo)), .int .u64 (tn (x1.hi))]] w fun e w' => e = .returned (.agg #[.int .u64 (tn (0#64)), .int .u64 (tn (minU x0.hi x1.hi))]) ∧ Below w.heap.size w w' := by
  go_enter Try.func35, Try.ntmps35
  have HS := hid ((((st_nil w).alloc (k := w.heap.size) rfl [.int .u64 (tn (x0.lo)), .int .u64 (tn (x0.hi))] 24).alloc (k := w.heap.size + 1) (by simp) [.int .u64 (tn (x1.lo)), .int .u64 (tn (x1.hi))] 24).alloc (k := w.heap.size + 2) (by simp) [.int .u64 0, .int .u64 0] 24)
  -- region 1
  go_upto_region 1 with fail
  refine lin_begin (St w [⟨w.heap.size, [some (.int .u64 (tn (x0.lo))), some (.int .u64 (tn (x0.hi)))], 24⟩, ⟨w.heap.size + 1, [some (.int .u64 (tn (x1.lo))), some (.int .u64 (tn (x1.hi)))], 24⟩, ⟨w.heap.size + 2, [some (.int .u64 0), some (.int .u64 0)], 24⟩]) rfl HS.out ?_
  refine lin_val (i := 0) (v := .pointer (some ⟨w.heap.size, 1, none⟩)) rfl rfl (by rfl) (by intro x hx; go_simp; (first | done | exact rfl)) ?_
  simp only [List.set_cons_succ, List.set_cons_zero]
  refine lin_val (i := 1) (v := .int .u64 (tn (x0.hi))) rfl rfl (by rfl) (by intro x hx; have f0 := hx.load 0 1 rfl rfl; go_simp; (first | done | exact rfl)) ?_
  simp only [List.set_cons_succ, List.set_cons_zero]
  refine lin_val (i := 2) (v := .pointer (some ⟨w.heap.size + 1, 1, none⟩)) rfl rfl (by rfl) (by intro x hx; go_simp; (first | done | exact rfl)) ?_
  simp only [List.set_cons_succ, List.set_cons_zero]
  refine lin_val (i := 3) (v := .int .u64 (tn (x1.hi))) rfl rfl (by rfl) (by intro x hx; have f0 := hx.load 1 1 rfl rfl; go_simp; (first | done | exact rfl)) ?_
  simp only [List.set_cons_succ, List.set_cons_zero]
  refine lin_val (i := 4) (v := .int .u64 (tn (minU x0.hi x1.hi))) rfl rfl (by rfl) (by intro x hx; go_simp; (first | done | exact minUT x0.hi x1.hi)) ?_
  simp only [List.set_cons_succ, List.set_cons_zero]
  refine lin_val (i := 5) (v := .agg #[.int .u64 0, .int .u64 (tn (minU x0.hi x1.hi))]) rfl rfl (by rfl) (by intro x hx; go_simp; (first | done | exact rfl)) ?_
  simp only [List.set_cons_succ, List.set_cons_zero]
  refine lin_store (i := 6) (St w [⟨w.heap.size, [some (.int .u64 (tn (x0.lo))), some (.int .u64 (tn (x0.hi)))], 24⟩, ⟨w.heap.size + 1, [some (.int .u64 (tn (x1.lo))), some (.int .u64 (tn (x1.hi)))], 24⟩, ⟨w.heap.size + 2, [some (.int .u64 0), some (.int .u64 (tn (minU x0.hi x1.hi)))], 24⟩]) rfl rfl (by rfl) (fun x => ((x.setCell ⟨w.heap.size + 2, 0, none⟩ (.int .u64 0)).setCell ⟨w.heap.size + 2, 1, none⟩ (.int .u64 (tn (minU x0.hi x1.hi))))) (by intro x hx; obtain ⟨u0, z0⟩ := hx.has 2 0 rfl (by simp); have q0 := hx.soft 2 0 rfl; obtain ⟨u1, z1⟩ := hx.has 2 1 rfl (by simp); have q1 := hx.soft 2 1 rfl; go_simp; (first | done | rfl)) (fun x hx => ((hx.put 2 0 (.int .u64 0) rfl).put 2 1 (.int .u64 (tn (minU x0.hi x1.hi))) rfl)) ?_
  refine lin_done ?_
  intro W1 hx
  replace HS := hid hx
  clear hx
  go_wp2
  have r0 := HS.out.load 2 0 rfl rfl
  have r1 := HS.out.load 2 1 rfl rfl
  exact bodyPost_ret (v := .agg #[.int .u64 0, .int .u64 (tn (minU x0.hi x1.hi))]) (by simp [results, Try.results35, go_sem, r0, r1]) rfl ⟨rfl, HS.out.below⟩
def span_Div (x0 : P) (x1 : P) : P :=
  bif (x1.hi == 0#64) then (P.mk 0#64 0#64) else (bif (x1.lo == 0#64) then (P.mk 0#64 x0.hi) else (P.mk (x0.lo / x1.hi) (x0.hi / x1.lo)))
set_option maxRecDepth 100000 in
set_option maxHeartbeats 1000000 in
theorem span_Div_any (x0 : P) (x1 : P)  (w : World) :
    Calls Try.prog 31 #[.agg #[.int .u64 (tn (x0.lo)), .int .u64 (tn (x0.hi))], .agg #[.int .u64 (tn (x1.lo)), .int .u64 (tn (x1.hi))]] w fun e w' => e = .returned (.agg #[.int .u64 (tn ((span_Div x0 x1).lo)), .int .u64 (tn ((span_Div x0 x1).hi))]) ∧ Below w.heap.size w w' := by
  go_enter Try.func31, Try.ntmps31
  have HS := hid ((((st_nil w).alloc (k := w.heap.size) rfl [.int .u64 (tn (x0.lo)), .int .u64 (tn (x0.hi))] 24).alloc (k := w.heap.size + 1) (by simp) [.int .u64 (tn (x1.lo)), .int .u64 (tn (x1.hi))] 24).alloc (k := w.heap.size + 2) (by simp) [.int .u64 0, .int .u64 0] 24)
  -- region 1
  go_upto_region 1 with fail
  refine lin_begin (St w [⟨w.heap.size, [some (.int .u64 (tn (x0.lo))), some (.int .u64 (tn (x0.hi)))], 24⟩, ⟨w.heap.size + 1, [some (.int .u64 (tn (x1.lo))), some (.int .u64 (tn (x1.hi)))], 24⟩, ⟨w.heap.size + 2, [some (.int .u64 0), some (.int .u64 0)], 24⟩]) rfl HS.out ?_
  refine lin_val (i := 0) (v := .pointer (some ⟨w.heap.size + 1, 1, none⟩)) rfl rfl (by rfl) (by intro x hx; go_simp; (first | done | exact rfl)) ?_
  simp only [List.set_cons_succ, List.set_cons_zero]
  refine lin_val (i := 1) (v := .int .u64 (tn (x1.hi))) rfl rfl (by rfl) (by intro x hx; have f0 := hx.load 1 1 rfl rfl; go_simp; (first | done | exact rfl)) ?_
  simp only [List.set_cons_succ, List.set_cons_zero]
  refine lin_val (i := 2) (v := .bool ((x1.hi == 0#64))) rfl rfl (by rfl) (by intro x hx; go_simp; (first | done | exact eqUT x1.hi 0#64 | exact congrArg _ (eqUT x1.hi 0#64) | (rw [eqUT x1.hi 0#64]; done) | (rw [eqUT x1.hi 0#64]; rfl))) ?_
  simp only [List.set_cons_succ, List.set_cons_zero]
  refine lin_val (i := 3) (v := .bool ((x1.hi == 0#64))) rfl rfl (by rfl) (by intro x hx; go_simp; (first | done | exact rfl)) ?_
  simp only [List.set_cons_succ, List.set_cons_zero]
  refine lin_done ?_
  intro W1 hx
  replace HS := hid hx
  clear hx
  cases h1 : ((x1.hi == 0#64))
  · replace h1 := hid h1
    -- region 3
    go_upto_region 3 with fail
    refine lin_begin (St w [⟨w.heap.size, [some (.int .u64 (tn (x0.lo))), some (.int .u64 (tn (x0.hi)))], 24⟩, ⟨w.heap.size + 1, [some (.int .u64 (tn (x1.lo))), some (.int .u64 (tn (x1.hi)))], 24⟩, ⟨w.heap.size + 2, [some (.int .u64 0), some (.int .u64 0)], 24⟩]) rfl HS.out ?_
    refine lin_val (i := 0) (v := .pointer (some ⟨w.heap.size + 1, 0, none⟩)) rfl rfl (by rfl) (by intro x hx; go_simp; (first | done | exact rfl)) ?_
    simp only [List.set_cons_succ, List.set_cons_zero]
    refine lin_val (i := 1) (v := .int .u64 (tn (x1.lo))) rfl rfl (by rfl) (by intro x hx; have f0 := hx.load 1 0 rfl rfl; go_simp; (first | done | exact rfl)) ?_
    simp only [List.set_cons_succ, List.set_cons_zero]
    refine lin_val (i := 2) (v := .bool ((x1.lo == 0#64))) rfl rfl (by rfl) (by intro x hx; go_simp; (first | done | exact eqUT x1.lo 0#64 | exact congrArg _ (eqUT x1.lo 0#64) | (rw [eqUT x1.lo 0#64]; done) | (rw [eqUT x1.lo 0#64]; rfl))) ?_
    simp only [List.set_cons_succ, List.set_cons_zero]
    refine lin_val (i := 3) (v := .bool ((x1.lo == 0#64))) rfl rfl (by rfl) (by intro x hx; go_simp; (first | done | exact rfl)) ?_
    simp only [List.set_cons_succ, List.set_cons_zero]
    refine lin_done ?_
    intro W2 hx
    replace HS := hid hx
    clear hx
    cases h2 : ((x1.lo == 0#64))
    · replace h2 := hid h2
      -- region 5
      go_upto_region 5 with fail
      refine up_begin (St w [⟨w.heap.size, [some (.int .u64 (tn (x0.lo))), some (.int .u64 (tn (x0.hi)))], 24⟩, ⟨w.heap.size + 1, [some (.int .u64 (tn (x1.lo))), some (.int .u64 (tn (x1.hi)))], 24⟩, ⟨w.heap.size + 2, [none, none], 24⟩]) 12 rfl (by kernel_rfl) (St.less HS.out.drew (less_cons rfl rfl (lessC_eq (lessC_eq (trivial))) (less_cons rfl rfl (lessC_eq (lessC_eq (trivial))) (less_cons rfl rfl (lessC_no (lessC_no (trivial))) (trivial))))) ?_
      refine take_val (i := 0) (v := .pointer (some ⟨w.heap.size, 0, none⟩)) (st_ups _ _) rfl rfl (by kernel_rfl) (fun _ _ _ h => h) (by rfl) (by intro x hx; go_simp; (first | done | exact rfl)) ?_
      simp only [List.set_cons_succ, List.set_cons_zero]
      refine take_val (i := 1) (v := .int .u64 (tn (x0.lo))) (st_ups _ _) rfl rfl (by kernel_rfl) (fun _ _ _ h => h) (by rfl) (by intro x hx; have f0 := hx.load 0 0 rfl rfl; go_simp; (first | done | exact rfl)) ?_
      simp only [List.set_cons_succ, List.set_cons_zero]
      refine take_val (i := 2) (v := .pointer (some ⟨w.heap.size + 1, 1, none⟩)) (st_ups _ _) rfl rfl (by kernel_rfl) (fun _ _ _ h => h) (by rfl) (by intro x hx; go_simp; (first | done | exact rfl)) ?_
      simp only [List.set_cons_succ, List.set_cons_zero]
      refine take_val (i := 3) (v := .int .u64 (tn (x1.hi))) (st_ups _ _) rfl rfl (by kernel_rfl) (fun _ _ _ h => h) (by rfl) (by intro x hx; have f0 := hx.load 1 1 rfl rfl; go_simp; (first | done | exact rfl)) ?_
      simp only [List.set_cons_succ, List.set_cons_zero]
      refine take_val (i := 4) (v := .int .u64 (tn (x0.lo / x1.hi))) (st_ups _ _) rfl rfl (by kernel_rfl) (fun _ _ _ h => h) (by rfl) (by intro x hx; have hy := ne0U h1.out; go_simp; (first | done | exact (if_neg hy).trans (congrArg (fun v => Result.ok (Next.value (Value.int .u64 v)) x) (quoUT x0.lo x1.hi)) | exact quoUT x0.lo x1.hi | exact congrArg _ (quoUT x0.lo x1.hi) | (rw [quoUT x0.lo x1.hi]; done) | (rw [quoUT x0.lo x1.hi]; rfl))) ?_
      simp only [List.set_cons_succ, List.set_cons_zero]
      refine take_val (i := 5) (v := .pointer (some ⟨w.heap.size, 1, none⟩)) (st_ups _ _) rfl rfl (by kernel_rfl) (fun _ _ _ h => h) (by rfl) (by intro x hx; go_simp; (first | done | exact rfl)) ?_
      simp only [List.set_cons_succ, List.set_cons_zero]
      refine take_val (i := 6) (v := .int .u64 (tn (x0.hi))) (st_ups _ _) rfl rfl (by kernel_rfl) (fun _ _ _ h => h) (by rfl) (by intro x hx; have f0 := hx.load 0 1 rfl rfl; go_simp; (first | done | exact rfl)) ?_
      simp only [List.set_cons_succ, List.set_cons_zero]
      refine take_val (i := 7) (v := .pointer (some ⟨w.heap.size + 1, 0, none⟩)) (st_ups _ _) rfl rfl (by kernel_rfl) (fun _ _ _ h => h) (by rfl) (by intro x hx; go_simp; (first | done | exact rfl)) ?_
      simp only [List.set_cons_succ, List.set_cons_zero]
      refine take_val (i := 8) (v := .int .u64 (tn (x1.lo))) (st_ups _ _) rfl rfl (by kernel_rfl) (fun _ _ _ h => h) (by rfl) (by intro x hx; have f0 := hx.load 1 0 rfl rfl; go_simp; (first | done | exact rfl)) ?_
      simp only [List.set_cons_succ, List.set_cons_zero]
      refine take_val (i := 9) (v := .int .u64 (tn (x0.hi / x1.lo))) (st_ups _ _) rfl rfl (by kernel_rfl) (fun _ _ _ h => h) (by rfl) (by intro x hx; have hy := ne0U h2.out; go_simp; (first | done | exact (if_neg hy).trans (congrArg (fun v => Result.ok (Next.value (Value.int .u64 v)) x) (quoUT x0.hi x1.lo)) | exact quoUT x0.hi x1.lo | exact congrArg _ (quoUT x0.hi x1.lo) | (rw [quoUT x0.hi x1.lo]; done) | (rw [quoUT x0.hi x1.lo]; rfl))) ?_
      simp only [List.set_cons_succ, List.set_cons_zero]
      refine take_val (i := 10) (v := .agg #[.int .u64 (tn (x0.lo / x1.hi)), .int .u64 (tn (x0.hi / x1.lo))]) (st_ups _ _) rfl rfl (by kernel_rfl) (fun _ _ _ h => h) (by rfl) (by intro x hx; go_simp; (first | done | exact rfl)) ?_
      simp only [List.set_cons_succ, List.set_cons_zero]
      refine take_one (i := 11) (by kernel_rfl) (step_store (St w [⟨w.heap.size, [some (.int .u64 (tn (x0.lo))), some (.int .u64 (tn (x0.hi)))], 24⟩, ⟨w.heap.size + 1, [some (.int .u64 (tn (x1.lo))), some (.int .u64 (tn (x1.hi)))], 24⟩, ⟨w.heap.size + 2, [some (.int .u64 (tn (x0.lo / x1.hi))), some (.int .u64 (tn (x0.hi / x1.lo)))], 24⟩]) (st_ups _ _) (fun x h => h.less (less_cons rfl rfl (lessC_eq (lessC_eq (trivial))) (less_cons rfl rfl (lessC_eq (lessC_eq (trivial))) (less_cons rfl rfl (lessC_no (lessC_no (trivial))) (trivial))))) rfl rfl (by rfl) (fun x => ((x.setCell ⟨w.heap.size + 2, 0, none⟩ (.int .u64 (tn (x0.lo / x1.hi)))).setCell ⟨w.heap.size + 2, 1, none⟩ (.int .u64 (tn (x0.hi / x1.lo))))) (by intro x hx; obtain ⟨u0, z0⟩ := hx.has 2 0 rfl (by simp); have q0 := hx.soft 2 0 rfl; obtain ⟨u1, z1⟩ := hx.has 2 1 rfl (by simp); have q1 := hx.soft 2 1 rfl; go_simp; (first | done | rfl)) (fun x hx => ((hx.put 2 0 (.int .u64 (tn (x0.lo / x1.hi))) rfl).put 2 1 (.int .u64 (tn (x0.hi / x1.lo))) rfl)) ?_)
      refine take_done (by kernel_rfl) ?_ _
      intro W3 hx
      replace HS := hid hx
      clear hx
      go_wp2
      have r0 := HS.out.load 2 0 rfl rfl
      have r1 := HS.out.load 2 1 rfl rfl
      have HF : span_Div x0 x1 = P.mk (x0.lo / x1.hi) (x0.hi / x1.lo) := by
        unfold span_Div
        rw [cond_f h1.out, cond_f h2.out]
      exact bodyPost_ret (v := .agg #[.int .u64 (tn (x0.lo / x1.hi)), .int .u64 (tn (x0.hi / x1.lo))]) (by simp [results, Try.results31, go_sem, r0, r1]) rfl ⟨(by first | (rw [HF]; done) | (rw [HF]; rfl)), HS.out.below⟩
    · replace h2 := hid h2
      -- region 4
      go_upto_region 4 with fail
      refine lin_begin (St w [⟨w.heap.size, [some (.int .u64 (tn (x0.lo))), some (.int .u64 (tn (x0.hi)))], 24⟩, ⟨w.heap.size + 1, [some (.int .u64 (tn (x1.lo))), some (.int .u64 (tn (x1.hi)))], 24⟩, ⟨w.heap.size + 2, [some (.int .u64 0), some (.int .u64 0)], 24⟩]) rfl HS.out ?_
      refine lin_val (i := 0) (v := .pointer (some ⟨w.heap.size, 1, none⟩)) rfl rfl (by rfl) (by intro x hx; go_simp; (first | done | exact rfl)) ?_
      simp only [List.set_cons_succ, List.set_cons_zero]
      refine lin_val (i := 1) (v := .int .u64 (tn (x0.hi))) rfl rfl (by rfl) (by intro x hx; have f0 := hx.load 0 1 rfl rfl; go_simp; (first | done | exact rfl)) ?_
      simp only [List.set_cons_succ, List.set_cons_zero]
      refine lin_val (i := 2) (v := .agg #[.int .u64 0, .int .u64 (tn (x0.hi))]) rfl rfl (by rfl) (by intro x hx; go_simp; (first | done | exact rfl)) ?_
      simp only [List.set_cons_succ, List.set_cons_zero]
      refine lin_store (i := 3) (St w [⟨w.heap.size, [some (.int .u64 (tn (x0.lo))), some (.int .u64 (tn (x0.hi)))], 24⟩, ⟨w.heap.size + 1, [some (.int .u64 (tn (x1.lo))), some (.int .u64 (tn (x1.hi)))], 24⟩, ⟨w.heap.size + 2, [some (.int .u64 0), some (.int .u64 (tn (x0.hi)))], 24⟩]) rfl rfl (by rfl) (fun x => ((x.setCell ⟨w.heap.size + 2, 0, none⟩ (.int .u64 0)).setCell ⟨w.heap.size + 2, 1, none⟩ (.int .u64 (tn (x0.hi))))) (by intro x hx; obtain ⟨u0, z0⟩ := hx.has 2 0 rfl (by simp); have q0 := hx.soft 2 0 rfl; obtain ⟨u1, z1⟩ := hx.has 2 1 rfl (by simp); have q1 := hx.soft 2 1 rfl; go_simp; (first | done | rfl)) (fun x hx => ((hx.put 2 0 (.int .u64 0) rfl).put 2 1 (.int .u64 (tn (x0.hi))) rfl)) ?_
      refine lin_done ?_
      intro W3 hx
      replace HS := hid hx
      clear hx
      go_wp2
      have r0 := HS.out.load 2 0 rfl rfl
      have r1 := HS.out.load 2 1 rfl rfl
      have HF : span_Div x0 x1 = P.mk 0#64 x0.hi := by
        unfold span_Div
        rw [cond_f h1.out, cond_t h2.out]
      exact bodyPost_ret (v := .agg #[.int .u64 0, .int .u64 (tn (x0.hi))]) (by simp [results, Try.results31, go_sem, r0, r1]) rfl ⟨(by first | (rw [HF]; done) | (rw [HF]; rfl)), HS.out.below⟩
  · replace h1 := hid h1
    -- region 2
    go_upto_region 2 with fail
    refine lin_begin (St w [⟨w.heap.size, [some (.int .u64 (tn (x0.lo))), some (.int .u64 (tn (x0.hi)))], 24⟩, ⟨w.heap.size + 1, [some (.int .u64 (tn (x1.lo))), some (.int .u64 (tn (x1.hi)))], 24⟩, ⟨w.heap.size + 2, [some (.int .u64 0), some (.int .u64 0)], 24⟩]) rfl HS.out ?_
    refine lin_call (i := 0) (f := 15) (args := #[.int .u64 (tn (0#64))]) (v := .agg #[.int .u64 (tn (0#64)), .int .u64 (tn (0#64))]) (st_ups _ _) rfl rfl (by rfl) (fun x hx => by kernel_rfl) (by intro x hx; exact span_Of_any 0#64 _) ?_
    simp only [List.set_cons_succ, List.set_cons_zero]
    refine lin_store (i := 1) (St w [⟨w.heap.size, [some (.int .u64 (tn (x0.lo))), some (.int .u64 (tn (x0.hi)))], 24⟩, ⟨w.heap.size + 1, [some (.int .u64 (tn (x1.lo))), some (.int .u64 (tn (x1.hi)))], 24⟩, ⟨w.heap.size + 2, [some (.int .u64 (tn (0#64))), some (.int .u64 (tn (0#64)))], 24⟩]) rfl rfl (by rfl) (fun x => ((x.setCell ⟨w.heap.size + 2, 0, none⟩ (.int .u64 (tn (0#64)))).setCell ⟨w.heap.size + 2, 1, none⟩ (.int .u64 (tn (0#64))))) (by intro x hx; obtain ⟨u0, z0⟩ := hx.has 2 0 rfl (by simp); have q0 := hx.soft 2 0 rfl; obtain ⟨u1, z1⟩ := hx.has 2 1 rfl (by simp); have q1 := hx.soft 2 1 rfl; go_simp; (first | done | rfl)) (fun x hx => ((hx.put 2 0 (.int .u64 (tn (0#64))) rfl).put 2 1 (.int .u64 (tn (0#64))) rfl)) ?_
    refine lin_done ?_
    intro W2 hx
    replace HS := hid hx
    clear hx
    go_wp2
    have r0 := HS.out.load 2 0 rfl rfl
    have r1 := HS.out.load 2 1 rfl rfl
    have HF : span_Div x0 x1 = P.mk 0#64 0#64 := by
      unfold span_Div
      rw [cond_t h1.out]
    exact bodyPost_ret (v := .agg #[.int .u64 (tn (0#64)), .int .u64 (tn (0#64))]) (by simp [results, Try.results31, go_sem, r0, r1]) rfl ⟨(by first | (rw [HF]; done) | (rw [HF]; rfl)), HS.out.below⟩
def span_Mod (x0 : P) (x1 : P) : P :=
  bif (x1.hi == 0#64) then (x0) else (bif ltU x0.hi x1.lo then (x0) else (bif (x1.lo == 0#64) then (P.mk 0#64 x0.hi) else (P.mk 0#64 (minU x0.hi (x1.hi - 1#64)))))
set_option maxRecDepth 100000 in
set_option maxHeartbeats 1000000 in
theorem span_Mod_any (x0 : P) (x1 : P)  (w : World) :
    Calls Try.prog 33 #[.agg #[.int .u64 (tn (x0.lo)), .int .u64 (tn (x0.hi))], .agg #[.int .u64 (tn (x1.lo)), .int .u64 (tn (x1.hi))]] w fun e w' => e = .returned (.agg #[.int .u64 (tn ((span_Mod x0 x1).lo)), .int .u64 (tn ((span_Mod x0 x1).hi))]) ∧ Below w.heap.size w w' := by
  go_enter Try.func33, Try.ntmps33
  have HS := hid ((((st_nil w).alloc (k := w.heap.size) rfl [.int .u64 (tn (x0.lo)), .int .u64 (tn (x0.hi))] 24).alloc (k := w.heap.size + 1) (by simp) [.int .u64 (tn (x1.lo)), .int .u64 (tn (x1.hi))] 24).alloc (k := w.heap.size + 2) (by simp) [.int .u64 0, .int .u64 0] 24)
  -- region 1
  go_upto_region 1 with fail
  refine lin_begin (St w [⟨w.heap.size, [some (.int .u64 (tn (x0.lo))), some (.int .u64 (tn (x0.hi)))], 24⟩, ⟨w.heap.size + 1, [some (.int .u64 (tn (x1.lo))), some (.int .u64 (tn (x1.hi)))], 24⟩, ⟨w.heap.size + 2, [some (.int .u64 0), some (.int .u64 0)], 24⟩]) rfl HS.out ?_
  refine lin_val (i := 0) (v := .pointer (some ⟨w.heap.size + 1, 1, none⟩)) rfl rfl (by rfl) (by intro x hx; go_simp; (first | done | exact rfl)) ?_
  simp only [List.set_cons_succ, List.set_cons_zero]
  refine lin_val (i := 1) (v := .int .u64 (tn (x1.hi))) rfl rfl (by rfl) (by intro x hx; have f0 := hx.load 1 1 rfl rfl; go_simp; (first | done | exact rfl)) ?_
  simp only [List.set_cons_succ, List.set_cons_zero]
  refine lin_val (i := 2) (v := .bool ((x1.hi == 0#64))) rfl rfl (by rfl) (by intro x hx; go_simp; (first | done | exact eqUT x1.hi 0#64 | exact congrArg _ (eqUT x1.hi 0#64) | (rw [eqUT x1.hi 0#64]; done) | (rw [eqUT x1.hi 0#64]; rfl))) ?_
  simp only [List.set_cons_succ, List.set_cons_zero]
  refine lin_val (i := 3) (v := .bool ((x1.hi == 0#64))) rfl rfl (by rfl) (by intro x hx; go_simp; (first | done | exact rfl)) ?_
  simp only [List.set_cons_succ, List.set_cons_zero]
  cases h1 : ((x1.hi == 0#64))
  · replace h1 := hid h1
    refine lin_val (i := 4) (v := .pointer (some ⟨w.heap.size, 1, none⟩)) rfl rfl (by rfl) (by intro x hx; go_simp; (first | done | exact rfl)) ?_
    simp only [List.set_cons_succ, List.set_cons_zero]
    refine lin_val (i := 5) (v := .int .u64 (tn (x0.hi))) rfl rfl (by rfl) (by intro x hx; have f0 := hx.load 0 1 rfl rfl; go_simp; (first | done | exact rfl)) ?_
    simp only [List.set_cons_succ, List.set_cons_zero]
    refine lin_val (i := 6) (v := .pointer (some ⟨w.heap.size + 1, 0, none⟩)) rfl rfl (by rfl) (by intro x hx; go_simp; (first | done | exact rfl)) ?_
    simp only [List.set_cons_succ, List.set_cons_zero]
    refine lin_val (i := 7) (v := .int .u64 (tn (x1.lo))) rfl rfl (by rfl) (by intro x hx; have f0 := hx.load 1 0 rfl rfl; go_simp; (first | done | exact rfl)) ?_
    simp only [List.set_cons_succ, List.set_cons_zero]
    refine lin_val (i := 8) (v := .bool (ltU x0.hi x1.lo)) rfl rfl (by rfl) (by intro x hx; go_simp; (first | done | exact ltUT x0.hi x1.lo | exact congrArg _ (ltUT x0.hi x1.lo) | (rw [ltUT x0.hi x1.lo]; done) | (rw [ltUT x0.hi x1.lo]; rfl))) ?_
    simp only [List.set_cons_succ, List.set_cons_zero]
    refine lin_val (i := 9) (v := .bool (ltU x0.hi x1.lo)) rfl rfl (by rfl) (by intro x hx; go_simp; (first | done | exact rfl)) ?_
    simp only [List.set_cons_succ, List.set_cons_zero]
    refine lin_val (i := 10) (v := .bool (ltU x0.hi x1.lo)) rfl rfl (by rfl) (by intro x hx; go_simp; (first | done | exact rfl)) ?_
    simp only [List.set_cons_succ, List.set_cons_zero]
    refine lin_done ?_
    intro W1 hx
    replace HS := hid hx
    clear hx
    cases h2 : (ltU x0.hi x1.lo)
    · replace h2 := hid h2
      -- region 3
      go_upto_region 3 with fail
      refine lin_begin (St w [⟨w.heap.size, [some (.int .u64 (tn (x0.lo))), some (.int .u64 (tn (x0.hi)))], 24⟩, ⟨w.heap.size + 1, [some (.int .u64 (tn (x1.lo))), some (.int .u64 (tn (x1.hi)))], 24⟩, ⟨w.heap.size + 2, [some (.int .u64 0), some (.int .u64 0)], 24⟩]) rfl HS.out ?_
      refine lin_val (i := 0) (v := .pointer (some ⟨w.heap.size + 1, 0, none⟩)) rfl rfl (by rfl) (by intro x hx; go_simp; (first | done | exact rfl)) ?_
      simp only [List.set_cons_succ, List.set_cons_zero]
      refine lin_val (i := 1) (v := .int .u64 (tn (x1.lo))) rfl rfl (by rfl) (by intro x hx; have f0 := hx.load 1 0 rfl rfl; go_simp; (first | done | exact rfl)) ?_
      simp only [List.set_cons_succ, List.set_cons_zero]
      refine lin_val (i := 2) (v := .bool ((x1.lo == 0#64))) rfl rfl (by rfl) (by intro x hx; go_simp; (first | done | exact eqUT x1.lo 0#64 | exact congrArg _ (eqUT x1.lo 0#64) | (rw [eqUT x1.lo 0#64]; done) | (rw [eqUT x1.lo 0#64]; rfl))) ?_
      simp only [List.set_cons_succ, List.set_cons_zero]
      refine lin_val (i := 3) (v := .bool ((x1.lo == 0#64))) rfl rfl (by rfl) (by intro x hx; go_simp; (first | done | exact rfl)) ?_
      simp only [List.set_cons_succ, List.set_cons_zero]
      refine lin_done ?_
      intro W2 hx
      replace HS := hid hx
      clear hx
      cases h3 : ((x1.lo == 0#64))
      · replace h3 := hid h3
        -- region 5
        go_upto_region 5 with fail
        refine lin_begin (St w [⟨w.heap.size, [some (.int .u64 (tn (x0.lo))), some (.int .u64 (tn (x0.hi)))], 24⟩, ⟨w.heap.size + 1, [some (.int .u64 (tn (x1.lo))), some (.int .u64 (tn (x1.hi)))], 24⟩, ⟨w.heap.size + 2, [some (.int .u64 0), some (.int .u64 0)], 24⟩]) rfl HS.out ?_
        refine lin_val (i := 0) (v := .pointer (some ⟨w.heap.size, 1, none⟩)) rfl rfl (by rfl) (by intro x hx; go_simp; (first | done | exact rfl)) ?_
        simp only [List.set_cons_succ, List.set_cons_zero]
        refine lin_val (i := 1) (v := .int .u64 (tn (x0.hi))) rfl rfl (by rfl) (by intro x hx; have f0 := hx.load 0 1 rfl rfl; go_simp; (first | done | exact rfl)) ?_
        simp only [List.set_cons_succ, List.set_cons_zero]
        refine lin_val (i := 2) (v := .pointer (some ⟨w.heap.size + 1, 1, none⟩)) rfl rfl (by rfl) (by intro x hx; go_simp; (first | done | exact rfl)) ?_
        simp only [List.set_cons_succ, List.set_cons_zero]
        refine lin_val (i := 3) (v := .int .u64 (tn (x1.hi))) rfl rfl (by rfl) (by intro x hx; have f0 := hx.load 1 1 rfl rfl; go_simp; (first | done | exact rfl)) ?_
        simp only [List.set_cons_succ, List.set_cons_zero]
        refine lin_val (i := 4) (v := .int .u64 (tn (x1.hi - 1#64))) rfl rfl (by rfl) (by intro x hx; go_simp; (first | done | exact subUT x1.hi 1#64 | exact congrArg _ (subUT x1.hi 1#64) | (rw [subUT x1.hi 1#64]; done) | (rw [subUT x1.hi 1#64]; rfl))) ?_
        simp only [List.set_cons_succ, List.set_cons_zero]
        refine lin_val (i := 5) (v := .int .u64 (tn (minU x0.hi (x1.hi - 1#64)))) rfl rfl (by rfl) (by intro x hx; go_simp; (first | done | exact minUT x0.hi (x1.hi - 1#64))) ?_
        simp only [List.set_cons_succ, List.set_cons_zero]
        refine lin_val (i := 6) (v := .agg #[.int .u64 0, .int .u64 (tn (minU x0.hi (x1.hi - 1#64)))]) rfl rfl (by rfl) (by intro x hx; go_simp; (first | done | exact rfl)) ?_
        simp only [List.set_cons_succ, List.set_cons_zero]
        refine lin_store (i := 7) (St w [⟨w.heap.size, [some (.int .u64 (tn (x0.lo))), some (.int .u64 (tn (x0.hi)))], 24⟩, ⟨w.heap.size + 1, [some (.int .u64 (tn (x1.lo))), some (.int .u64 (tn (x1.hi)))], 24⟩, ⟨w.heap.size + 2, [some (.int .u64 0), some (.int .u64 (tn (minU x0.hi (x1.hi - 1#64))))], 24⟩]) rfl rfl (by rfl) (fun x => ((x.setCell ⟨w.heap.size + 2, 0, none⟩ (.int .u64 0)).setCell ⟨w.heap.size + 2, 1, none⟩ (.int .u64 (tn (minU x0.hi (x1.hi - 1#64)))))) (by intro x hx; obtain ⟨u0, z0⟩ := hx.has 2 0 rfl (by simp); have q0 := hx.soft 2 0 rfl; obtain ⟨u1, z1⟩ := hx.has 2 1 rfl (by simp); have q1 := hx.soft 2 1 rfl; go_simp; (first | done | rfl)) (fun x hx => ((hx.put 2 0 (.int .u64 0) rfl).put 2 1 (.int .u64 (tn (minU x0.hi (x1.hi - 1#64)))) rfl)) ?_
        refine lin_done ?_
        intro W3 hx
        replace HS := hid hx
        clear hx
        go_wp2
        have r0 := HS.out.load 2 0 rfl rfl
        have r1 := HS.out.load 2 1 rfl rfl
        have HF : span_Mod x0 x1 = P.mk 0#64 (minU x0.hi (x1.hi - 1#64)) := by
          unfold span_Mod
          rw [cond_f h1.out, cond_f h2.out, cond_f h3.out]
        exact bodyPost_ret (v := .agg #[.int .u64 0, .int .u64 (tn (minU x0.hi (x1.hi - 1#64)))]) (by simp [results, Try.results33, go_sem, r0, r1]) rfl ⟨(by first | (rw [HF]; done) | (rw [HF]; rfl)), HS.out.below⟩
      · replace h3 := hid h3
        -- region 4
        go_upto_region 4 with fail
        refine lin_begin (St w [⟨w.heap.size, [some (.int .u64 (tn (x0.lo))), some (.int .u64 (tn (x0.hi)))], 24⟩, ⟨w.heap.size + 1, [some (.int .u64 (tn (x1.lo))), some (.int .u64 (tn (x1.hi)))], 24⟩, ⟨w.heap.size + 2, [some (.int .u64 0), some (.int .u64 0)], 24⟩]) rfl HS.out ?_
        refine lin_val (i := 0) (v := .pointer (some ⟨w.heap.size, 1, none⟩)) rfl rfl (by rfl) (by intro x hx; go_simp; (first | done | exact rfl)) ?_
        simp only [List.set_cons_succ, List.set_cons_zero]
        refine lin_val (i := 1) (v := .int .u64 (tn (x0.hi))) rfl rfl (by rfl) (by intro x hx; have f0 := hx.load 0 1 rfl rfl; go_simp; (first | done | exact rfl)) ?_
        simp only [List.set_cons_succ, List.set_cons_zero]
        refine lin_val (i := 2) (v := .agg #[.int .u64 0, .int .u64 (tn (x0.hi))]) rfl rfl (by rfl) (by intro x hx; go_simp; (first | done | exact rfl)) ?_
        simp only [List.set_cons_succ, List.set_cons_zero]
        refine lin_store (i := 3) (St w [⟨w.heap.size, [some (.int .u64 (tn (x0.lo))), some (.int .u64 (tn (x0.hi)))], 24⟩, ⟨w.heap.size + 1, [some (.int .u64 (tn (x1.lo))), some (.int .u64 (tn (x1.hi)))], 24⟩, ⟨w.heap.size + 2, [some (.int .u64 0), some (.int .u64 (tn (x0.hi)))], 24⟩]) rfl rfl (by rfl) (fun x => ((x.setCell ⟨w.heap.size + 2, 0, none⟩ (.int .u64 0)).setCell ⟨w.heap.size + 2, 1, none⟩ (.int .u64 (tn (x0.hi))))) (by intro x hx; obtain ⟨u0, z0⟩ := hx.has 2 0 rfl (by simp); have q0 := hx.soft 2 0 rfl; obtain ⟨u1, z1⟩ := hx.has 2 1 rfl (by simp); have q1 := hx.soft 2 1 rfl; go_simp; (first | done | rfl)) (fun x hx => ((hx.put 2 0 (.int .u64 0) rfl).put 2 1 (.int .u64 (tn (x0.hi))) rfl)) ?_
        refine lin_done ?_
        intro W3 hx
        replace HS := hid hx
        clear hx
        go_wp2
        have r0 := HS.out.load 2 0 rfl rfl
        have r1 := HS.out.load 2 1 rfl rfl
        have HF : span_Mod x0 x1 = P.mk 0#64 x0.hi := by
          unfold span_Mod
          rw [cond_f h1.out, cond_f h2.out, cond_t h3.out]
        exact bodyPost_ret (v := .agg #[.int .u64 0, .int .u64 (tn (x0.hi))]) (by simp [results, Try.results33, go_sem, r0, r1]) rfl ⟨(by first | (rw [HF]; done) | (rw [HF]; rfl)), HS.out.below⟩
    · replace h2 := hid h2
      -- region 2
      go_upto_region 2 with fail
      refine lin_begin (St w [⟨w.heap.size, [some (.int .u64 (tn (x0.lo))), some (.int .u64 (tn (x0.hi)))], 24⟩, ⟨w.heap.size + 1, [some (.int .u64 (tn (x1.lo))), some (.int .u64 (tn (x1.hi)))], 24⟩, ⟨w.heap.size + 2, [some (.int .u64 0), some (.int .u64 0)], 24⟩]) rfl HS.out ?_
      refine lin_val (i := 0) (v := .agg #[.int .u64 (tn (x0.lo)), .int .u64 (tn (x0.hi))]) rfl rfl (by rfl) (by intro x hx; have f0 := hx.load 0 0 rfl rfl; have f1 := hx.load 0 1 rfl rfl; go_simp; (first | done | exact rfl)) ?_
      simp only [List.set_cons_succ, List.set_cons_zero]
      refine lin_store (i := 1) (St w [⟨w.heap.size, [some (.int .u64 (tn (x0.lo))), some (.int .u64 (tn (x0.hi)))], 24⟩, ⟨w.heap.size + 1, [some (.int .u64 (tn (x1.lo))), some (.int .u64 (tn (x1.hi)))], 24⟩, ⟨w.heap.size + 2, [some (.int .u64 (tn (x0.lo))), some (.int .u64 (tn (x0.hi)))], 24⟩]) rfl rfl (by rfl) (fun x => ((x.setCell ⟨w.heap.size + 2, 0, none⟩ (.int .u64 (tn (x0.lo)))).setCell ⟨w.heap.size + 2, 1, none⟩ (.int .u64 (tn (x0.hi))))) (by intro x hx; obtain ⟨u0, z0⟩ := hx.has 2 0 rfl (by simp); have q0 := hx.soft 2 0 rfl; obtain ⟨u1, z1⟩ := hx.has 2 1 rfl (by simp); have q1 := hx.soft 2 1 rfl; go_simp; (first | done | rfl)) (fun x hx => ((hx.put 2 0 (.int .u64 (tn (x0.lo))) rfl).put 2 1 (.int .u64 (tn (x0.hi))) rfl)) ?_
      refine lin_done ?_
      intro W2 hx
      replace HS := hid hx
      clear hx
      go_wp2
      have r0 := HS.out.load 2 0 rfl rfl
      have r1 := HS.out.load 2 1 rfl rfl
      have HF : span_Mod x0 x1 = x0 := by
        unfold span_Mod
        rw [cond_f h1.out, cond_t h2.out]
      exact bodyPost_ret (v := .agg #[.int .u64 (tn (x0.lo)), .int .u64 (tn (x0.hi))]) (by simp [results, Try.results33, go_sem, r0, r1]) rfl ⟨(by first | (rw [HF]; done) | (rw [HF]; rfl)), HS.out.below⟩
  · replace h1 := hid h1
    refine lin_no (i := 4) rfl rfl (by kernel_rfl) ?_
    simp only [List.set_cons_succ, List.set_cons_zero]
    refine lin_no (i := 5) rfl rfl (by kernel_rfl) ?_
    simp only [List.set_cons_succ, List.set_cons_zero]
    refine lin_no (i := 6) rfl rfl (by kernel_rfl) ?_
    simp only [List.set_cons_succ, List.set_cons_zero]
    refine lin_no (i := 7) rfl rfl (by kernel_rfl) ?_
    simp only [List.set_cons_succ, List.set_cons_zero]
    refine lin_no (i := 8) rfl rfl (by kernel_rfl) ?_
    simp only [List.set_cons_succ, List.set_cons_zero]
    refine lin_val (i := 9) (v := .bool true) rfl rfl (by rfl) (by intro x hx; go_simp; (first | done | exact rfl)) ?_
    simp only [List.set_cons_succ, List.set_cons_zero]
    refine lin_val (i := 10) (v := .bool true) rfl rfl (by rfl) (by intro x hx; go_simp; (first | done | exact rfl)) ?_
    simp only [List.set_cons_succ, List.set_cons_zero]
    refine lin_done ?_
    intro W1 hx
    replace HS := hid hx
    clear hx
    -- region 2
    go_upto_region 2 with fail
    refine lin_begin (St w [⟨w.heap.size, [some (.int .u64 (tn (x0.lo))), some (.int .u64 (tn (x0.hi)))], 24⟩, ⟨w.heap.size + 1, [some (.int .u64 (tn (x1.lo))), some (.int .u64 (tn (x1.hi)))], 24⟩, ⟨w.heap.size + 2, [some (.int .u64 0), some (.int .u64 0)], 24⟩]) rfl HS.out ?_
    refine lin_val (i := 0) (v := .agg #[.int .u64 (tn (x0.lo)), .int .u64 (tn (x0.hi))]) rfl rfl (by rfl) (by intro x hx; have f0 := hx.load 0 0 rfl rfl; have f1 := hx.load 0 1 rfl rfl; go_simp; (first | done | exact rfl)) ?_
    simp only [List.set_cons_succ, List.set_cons_zero]
    refine lin_store (i := 1) (St w [⟨w.heap.size, [some (.int .u64 (tn (x0.lo))), some (.int .u64 (tn (x0.hi)))], 24⟩, ⟨w.heap.size + 1, [some (.int .u64 (tn (x1.lo))), some (.int .u64 (tn (x1.hi)))], 24⟩, ⟨w.heap.size + 2, [some (.int .u64 (tn (x0.lo))), some (.int .u64 (tn (x0.hi)))], 24⟩]) rfl rfl (by rfl) (fun x => ((x.setCell ⟨w.heap.size + 2, 0, none⟩ (.int .u64 (tn (x0.lo)))).setCell ⟨w.heap.size + 2, 1, none⟩ (.int .u64 (tn (x0.hi))))) (by intro x hx; obtain ⟨u0, z0⟩ := hx.has 2 0 rfl (by simp); have q0 := hx.soft 2 0 rfl; obtain ⟨u1, z1⟩ := hx.has 2 1 rfl (by simp); have q1 := hx.soft 2 1 rfl; go_simp; (first | done | rfl)) (fun x hx => ((hx.put 2 0 (.int .u64 (tn (x0.lo))) rfl).put 2 1 (.int .u64 (tn (x0.hi))) rfl)) ?_
    refine lin_done ?_
    intro W2 hx
    replace HS := hid hx
    clear hx
    go_wp2
    have r0 := HS.out.load 2 0 rfl rfl
    have r1 := HS.out.load 2 1 rfl rfl
    have HF : span_Mod x0 x1 = x0 := by
      unfold span_Mod
      rw [cond_t h1.out]
    exact bodyPost_ret (v := .agg #[.int .u64 (tn (x0.lo)), .int .u64 (tn (x0.hi))]) (by simp [results, Try.results33, go_sem, r0, r1]) rfl ⟨(by first | (rw [HF]; done) | (rw [HF]; rfl)), HS.out.below⟩
def bits_Mul64 (x0 : BitVec 64) (x1 : BitVec 64) : BitVec 64 × BitVec 64 :=
  ((((x0 >>> (32#64).toNat) * (x1 >>> (32#64).toNat)) + ((((x0 >>> (32#64).toNat) * (x1 &&& 4294967295#64)) + (((x0 &&& 4294967295#64) * (x1 &&& 4294967295#64)) >>> (32#64).toNat)) >>> (32#64).toNat)) + ((((((x0 >>> (32#64).toNat) * (x1 &&& 4294967295#64)) + (((x0 &&& 4294967295#64) * (x1 &&& 4294967295#64)) >>> (32#64).toNat)) &&& 4294967295#64) + ((x0 &&& 4294967295#64) * (x1 >>> (32#64).toNat))) >>> (32#64).toNat), x0 * x1)
set_option maxRecDepth 100000 in
set_option maxHeartbeats 1000000 in
theorem bits_Mul64_any (x0 : BitVec 64) (x1 : BitVec 64)  (w : World) :
    Calls Try.prog 92 #[.int .u64 (tn (x0)), .int .u64 (tn (x1))] w fun e w' => e = .returned (.tuple #[.int .u64 (tn ((bits_Mul64 x0 x1).1)), .int .u64 (tn ((bits_Mul64 x0 x1).2))]) ∧ Below w.heap.size w w' := by
  go_enter Try.func92, Try.ntmps92
  have HS := hid (st_nil w)
  -- region 1
  go_upto_region 1 with fail
  refine lin_begin (St w []) rfl HS.out ?_
  refine lin_val (i := 0) (v := .int .u64 (tn (x0))) rfl rfl (by rfl) (by intro x hx; go_simp; (first | done | exact rfl)) ?_
  simp only [List.set_cons_succ, List.set_cons_zero]
  refine lin_val (i := 1) (v := .int .u64 (tn (x0 &&& 4294967295#64))) rfl rfl (by rfl) (by intro x hx; go_simp; (first | done | exact andUT x0 4294967295#64 | exact congrArg _ (andUT x0 4294967295#64) | (rw [andUT x0 4294967295#64]; done) | (rw [andUT x0 4294967295#64]; rfl))) ?_
  simp only [List.set_cons_succ, List.set_cons_zero]
  refine lin_val (i := 2) (v := .int .u64 (tn (x0 &&& 4294967295#64))) rfl rfl (by rfl) (by intro x hx; go_simp; (first | done | exact rfl)) ?_
  simp only [List.set_cons_succ, List.set_cons_zero]
  refine lin_done ?_
  intro W1 hx
  replace HS := hid hx
  clear hx
  -- region 2
  go_upto_region 2 with fail
  refine lin_begin (St w []) rfl HS.out ?_
  refine lin_val (i := 0) (v := .int .u64 (tn (x0))) rfl rfl (by rfl) (by intro x hx; go_simp; (first | done | exact rfl)) ?_
  simp only [List.set_cons_succ, List.set_cons_zero]
  refine lin_val (i := 1) (v := .int .u64 (tn (x0 >>> (32#64).toNat))) rfl rfl (by rfl) (by intro x hx; have hy := tn_lo 32#64; go_simp; (first | done | exact shrUU x0 32#64 hy | exact congrArg _ (shrUU x0 32#64 hy) | (rw [shrUU x0 32#64 hy]; done) | (rw [shrUU x0 32#64 hy]; rfl))) ?_
  simp only [List.set_cons_succ, List.set_cons_zero]
  refine lin_val (i := 2) (v := .int .u64 (tn (x0 >>> (32#64).toNat))) rfl rfl (by rfl) (by intro x hx; go_simp; (first | done | exact rfl)) ?_
  simp only [List.set_cons_succ, List.set_cons_zero]
  refine lin_done ?_
  intro W2 hx
  replace HS := hid hx
  clear hx
  -- region 3
  go_upto_region 3 with fail
  refine lin_begin (St w []) rfl HS.out ?_
  refine lin_val (i := 0) (v := .int .u64 (tn (x1))) rfl rfl (by rfl) (by intro x hx; go_simp; (first | done | exact rfl)) ?_
  simp only [List.set_cons_succ, List.set_cons_zero]
  refine lin_val (i := 1) (v := .int .u64 (tn (x1 &&& 4294967295#64))) rfl rfl (by rfl) (by intro x hx; go_simp; (first | done | exact andUT x1 4294967295#64 | exact congrArg _ (andUT x1 4294967295#64) | (rw [andUT x1 4294967295#64]; done) | (rw [andUT x1 4294967295#64]; rfl))) ?_
  simp only [List.set_cons_succ, List.set_cons_zero]
  refine lin_val (i := 2) (v := .int .u64 (tn (x1 &&& 4294967295#64))) rfl rfl (by rfl) (by intro x hx; go_simp; (first | done | exact rfl)) ?_
  simp only [List.set_cons_succ, List.set_cons_zero]
  refine lin_done ?_
  intro W3 hx
  replace HS := hid hx
  clear hx
  -- region 4
  go_upto_region 4 with fail
  refine lin_begin (St w []) rfl HS.out ?_
  refine lin_val (i := 0) (v := .int .u64 (tn (x1))) rfl rfl (by rfl) (by intro x hx; go_simp; (first | done | exact rfl)) ?_
  simp only [List.set_cons_succ, List.set_cons_zero]
  refine lin_val (i := 1) (v := .int .u64 (tn (x1 >>> (32#64).toNat))) rfl rfl (by rfl) (by intro x hx; have hy := tn_lo 32#64; go_simp; (first | done | exact shrUU x1 32#64 hy | exact congrArg _ (shrUU x1 32#64 hy) | (rw [shrUU x1 32#64 hy]; done) | (rw [shrUU x1 32#64 hy]; rfl))) ?_
  simp only [List.set_cons_succ, List.set_cons_zero]
  refine lin_val (i := 2) (v := .int .u64 (tn (x1 >>> (32#64).toNat))) rfl rfl (by rfl) (by intro x hx; go_simp; (first | done | exact rfl)) ?_
  simp only [List.set_cons_succ, List.set_cons_zero]
  refine lin_done ?_
  intro W4 hx
  replace HS := hid hx
  clear hx
  -- region 5
  go_upto_region 5 with fail
  refine lin_begin (St w []) rfl HS.out ?_
  refine lin_val (i := 0) (v := .int .u64 (tn (x0 &&& 4294967295#64))) rfl rfl (by rfl) (by intro x hx; go_simp; (first | done | exact rfl)) ?_
  simp only [List.set_cons_succ, List.set_cons_zero]
  refine lin_val (i := 1) (v := .int .u64 (tn (x1 &&& 4294967295#64))) rfl rfl (by rfl) (by intro x hx; go_simp; (first | done | exact rfl)) ?_
  simp only [List.set_cons_succ, List.set_cons_zero]
  refine lin_val (i := 2) (v := .int .u64 (tn ((x0 &&& 4294967295#64) * (x1 &&& 4294967295#64)))) rfl rfl (by rfl) (by intro x hx; go_simp; (first | done | exact mulUT (x0 &&& 4294967295#64) (x1 &&& 4294967295#64) | exact congrArg _ (mulUT (x0 &&& 4294967295#64) (x1 &&& 4294967295#64)) | (rw [mulUT (x0 &&& 4294967295#64) (x1 &&& 4294967295#64)]; done) | (rw [mulUT (x0 &&& 4294967295#64) (x1 &&& 4294967295#64)]; rfl))) ?_
  simp only [List.set_cons_succ, List.set_cons_zero]
  refine lin_val (i := 3) (v := .int .u64 (tn ((x0 &&& 4294967295#64) * (x1 &&& 4294967295#64)))) rfl rfl (by rfl) (by intro x hx; go_simp; (first | done | exact rfl)) ?_
  simp only [List.set_cons_succ, List.set_cons_zero]
  refine lin_done ?_
  intro W5 hx
  replace HS := hid hx
  clear hx
  -- region 6
  go_upto_region 6 with fail
  refine lin_begin (St w []) rfl HS.out ?_
  refine lin_val (i := 0) (v := .int .u64 (tn (x0 >>> (32#64).toNat))) rfl rfl (by rfl) (by intro x hx; go_simp; (first | done | exact rfl)) ?_
  simp only [List.set_cons_succ, List.set_cons_zero]
  refine lin_val (i := 1) (v := .int .u64 (tn (x1 &&& 4294967295#64))) rfl rfl (by rfl) (by intro x hx; go_simp; (first | done | exact rfl)) ?_
  simp only [List.set_cons_succ, List.set_cons_zero]
  refine lin_val (i := 2) (v := .int .u64 (tn ((x0 >>> (32#64).toNat) * (x1 &&& 4294967295#64)))) rfl rfl (by rfl) (by intro x hx; go_simp; (first | done | exact mulUT (x0 >>> (32#64).toNat) (x1 &&& 4294967295#64) | exact congrArg _ (mulUT (x0 >>> (32#64).toNat) (x1 &&& 4294967295#64)) | (rw [mulUT (x0 >>> (32#64).toNat) (x1 &&& 4294967295#64)]; done) | (rw [mulUT (x0 >>> (32#64).toNat) (x1 &&& 4294967295#64)]; rfl))) ?_
  simp only [List.set_cons_succ, List.set_cons_zero]
  refine lin_val (i := 3) (v := .int .u64 (tn ((x0 &&& 4294967295#64) * (x1 &&& 4294967295#64)))) rfl rfl (by rfl) (by intro x hx; go_simp; (first | done | exact rfl)) ?_
  simp only [List.set_cons_succ, List.set_cons_zero]
  refine lin_val (i := 4) (v := .int .u64 (tn (((x0 &&& 4294967295#64) * (x1 &&& 4294967295#64)) >>> (32#64).toNat))) rfl rfl (by rfl) (by intro x hx; have hy := tn_lo 32#64; go_simp; (first | done | exact shrUU ((x0 &&& 4294967295#64) * (x1 &&& 4294967295#64)) 32#64 hy | exact congrArg _ (shrUU ((x0 &&& 4294967295#64) * (x1 &&& 4294967295#64)) 32#64 hy) | (rw [shrUU ((x0 &&& 4294967295#64) * (x1 &&& 4294967295#64)) 32#64 hy]; done) | (rw [shrUU ((x0 &&& 4294967295#64) * (x1 &&& 4294967295#64)) 32#64 hy]; rfl))) ?_
  simp only [List.set_cons_succ, List.set_cons_zero]
  refine lin_val (i := 5) (v := .int .u64 (tn (((x0 >>> (32#64).toNat) * (x1 &&& 4294967295#64)) + (((x0 &&& 4294967295#64) * (x1 &&& 4294967295#64)) >>> (32#64).toNat)))) rfl rfl (by rfl) (by intro x hx; go_simp; (first | done | exact addUT ((x0 >>> (32#64).toNat) * (x1 &&& 4294967295#64)) (((x0 &&& 4294967295#64) * (x1 &&& 4294967295#64)) >>> (32#64).toNat) | exact congrArg _ (addUT ((x0 >>> (32#64).toNat) * (x1 &&& 4294967295#64)) (((x0 &&& 4294967295#64) * (x1 &&& 4294967295#64)) >>> (32#64).toNat)) | (rw [addUT ((x0 >>> (32#64).toNat) * (x1 &&& 4294967295#64)) (((x0 &&& 4294967295#64) * (x1 &&& 4294967295#64)) >>> (32#64).toNat)]; done) | (rw [addUT ((x0 >>> (32#64).toNat) * (x1 &&& 4294967295#64)) (((x0 &&& 4294967295#64) * (x1 &&& 4294967295#64)) >>> (32#64).toNat)]; rfl))) ?_
  simp only [List.set_cons_succ, List.set_cons_zero]
  refine lin_val (i := 6) (v := .int .u64 (tn (((x0 >>> (32#64).toNat) * (x1 &&& 4294967295#64)) + (((x0 &&& 4294967295#64) * (x1 &&& 4294967295#64)) >>> (32#64).toNat)))) rfl rfl (by rfl) (by intro x hx; go_simp; (first | done | exact rfl)) ?_
  simp only [List.set_cons_succ, List.set_cons_zero]
  refine lin_done ?_
  intro W6 hx
  replace HS := hid hx
  clear hx
  -- region 7
  go_upto_region 7 with fail
  refine lin_begin (St w []) rfl HS.out ?_
  refine lin_val (i := 0) (v := .int .u64 (tn (((x0 >>> (32#64).toNat) * (x1 &&& 4294967295#64)) + (((x0 &&& 4294967295#64) * (x1 &&& 4294967295#64)) >>> (32#64).toNat)))) rfl rfl (by rfl) (by intro x hx; go_simp; (first | done | exact rfl)) ?_
  simp only [List.set_cons_succ, List.set_cons_zero]
  refine lin_val (i := 1) (v := .int .u64 (tn ((((x0 >>> (32#64).toNat) * (x1 &&& 4294967295#64)) + (((x0 &&& 4294967295#64) * (x1 &&& 4294967295#64)) >>> (32#64).toNat)) &&& 4294967295#64))) rfl rfl (by rfl) (by intro x hx; go_simp; (first | done | exact andUT (((x0 >>> (32#64).toNat) * (x1 &&& 4294967295#64)) + (((x0 &&& 4294967295#64) * (x1 &&& 4294967295#64)) >>> (32#64).toNat)) 4294967295#64 | exact congrArg _ (andUT (((x0 >>> (32#64).toNat) * (x1 &&& 4294967295#64)) + (((x0 &&& 4294967295#64) * (x1 &&& 4294967295#64)) >>> (32#64).toNat)) 4294967295#64) | (rw [andUT (((x0 >>> (32#64).toNat) * (x1 &&& 4294967295#64)) + (((x0 &&& 4294967295#64) * (x1 &&& 4294967295#64)) >>> (32#64).toNat)) 4294967295#64]; done) | (rw [andUT (((x0 >>> (32#64).toNat) * (x1 &&& 4294967295#64)) + (((x0 &&& 4294967295#64) * (x1 &&& 4294967295#64)) >>> (32#64).toNat)) 4294967295#64]; rfl))) ?_
  simp only [List.set_cons_succ, List.set_cons_zero]
  refine lin_val (i := 2) (v := .int .u64 (tn ((((x0 >>> (32#64).toNat) * (x1 &&& 4294967295#64)) + (((x0 &&& 4294967295#64) * (x1 &&& 4294967295#64)) >>> (32#64).toNat)) &&& 4294967295#64))) rfl rfl (by rfl) (by intro x hx; go_simp; (first | done | exact rfl)) ?_
  simp only [List.set_cons_succ, List.set_cons_zero]
  refine lin_done ?_
  intro W7 hx
  replace HS := hid hx
  clear hx
  -- region 8
  go_upto_region 8 with fail
  refine lin_begin (St w []) rfl HS.out ?_
  refine lin_val (i := 0) (v := .int .u64 (tn (((x0 >>> (32#64).toNat) * (x1 &&& 4294967295#64)) + (((x0 &&& 4294967295#64) * (x1 &&& 4294967295#64)) >>> (32#64).toNat)))) rfl rfl (by rfl) (by intro x hx; go_simp; (first | done | exact rfl)) ?_
  simp only [List.set_cons_succ, List.set_cons_zero]
  refine lin_val (i := 1) (v := .int .u64 (tn ((((x0 >>> (32#64).toNat) * (x1 &&& 4294967295#64)) + (((x0 &&& 4294967295#64) * (x1 &&& 4294967295#64)) >>> (32#64).toNat)) >>> (32#64).toNat))) rfl rfl (by rfl) (by intro x hx; have hy := tn_lo 32#64; go_simp; (first | done | exact shrUU (((x0 >>> (32#64).toNat) * (x1 &&& 4294967295#64)) + (((x0 &&& 4294967295#64) * (x1 &&& 4294967295#64)) >>> (32#64).toNat)) 32#64 hy | exact congrArg _ (shrUU (((x0 >>> (32#64).toNat) * (x1 &&& 4294967295#64)) + (((x0 &&& 4294967295#64) * (x1 &&& 4294967295#64)) >>> (32#64).toNat)) 32#64 hy) | (rw [shrUU (((x0 >>> (32#64).toNat) * (x1 &&& 4294967295#64)) + (((x0 &&& 4294967295#64) * (x1 &&& 4294967295#64)) >>> (32#64).toNat)) 32#64 hy]; done) | (rw [shrUU (((x0 >>> (32#64).toNat) * (x1 &&& 4294967295#64)) + (((x0 &&& 4294967295#64) * (x1 &&& 4294967295#64)) >>> (32#64).toNat)) 32#64 hy]; rfl))) ?_
  simp only [List.set_cons_succ, List.set_cons_zero]
  refine lin_val (i := 2) (v := .int .u64 (tn ((((x0 >>> (32#64).toNat) * (x1 &&& 4294967295#64)) + (((x0 &&& 4294967295#64) * (x1 &&& 4294967295#64)) >>> (32#64).toNat)) >>> (32#64).toNat))) rfl rfl (by rfl) (by intro x hx; go_simp; (first | done | exact rfl)) ?_
  simp only [List.set_cons_succ, List.set_cons_zero]
  refine lin_done ?_
  intro W8 hx
  replace HS := hid hx
  clear hx
  -- region 9
  go_upto_region 9 with fail
  refine lin_begin (St w []) rfl HS.out ?_
  refine lin_val (i := 0) (v := .int .u64 (tn ((((x0 >>> (32#64).toNat) * (x1 &&& 4294967295#64)) + (((x0 &&& 4294967295#64) * (x1 &&& 4294967295#64)) >>> (32#64).toNat)) &&& 4294967295#64))) rfl rfl (by rfl) (by intro x hx; go_simp; (first | done | exact rfl)) ?_
  simp only [List.set_cons_succ, List.set_cons_zero]
  refine lin_val (i := 1) (v := .int .u64 (tn (x0 &&& 4294967295#64))) rfl rfl (by rfl) (by intro x hx; go_simp; (first | done | exact rfl)) ?_
  simp only [List.set_cons_succ, List.set_cons_zero]
  refine lin_val (i := 2) (v := .int .u64 (tn (x1 >>> (32#64).toNat))) rfl rfl (by rfl) (by intro x hx; go_simp; (first | done | exact rfl)) ?_
  simp only [List.set_cons_succ, List.set_cons_zero]
  refine lin_val (i := 3) (v := .int .u64 (tn ((x0 &&& 4294967295#64) * (x1 >>> (32#64).toNat)))) rfl rfl (by rfl) (by intro x hx; go_simp; (first | done | exact mulUT (x0 &&& 4294967295#64) (x1 >>> (32#64).toNat) | exact congrArg _ (mulUT (x0 &&& 4294967295#64) (x1 >>> (32#64).toNat)) | (rw [mulUT (x0 &&& 4294967295#64) (x1 >>> (32#64).toNat)]; done) | (rw [mulUT (x0 &&& 4294967295#64) (x1 >>> (32#64).toNat)]; rfl))) ?_
  simp only [List.set_cons_succ, List.set_cons_zero]
  refine lin_val (i := 4) (v := .int .u64 (tn (((((x0 >>> (32#64).toNat) * (x1 &&& 4294967295#64)) + (((x0 &&& 4294967295#64) * (x1 &&& 4294967295#64)) >>> (32#64).toNat)) &&& 4294967295#64) + ((x0 &&& 4294967295#64) * (x1 >>> (32#64).toNat))))) rfl rfl (by rfl) (by intro x hx; go_simp; (first | done | exact addUT ((((x0 >>> (32#64).toNat) * (x1 &&& 4294967295#64)) + (((x0 &&& 4294967295#64) * (x1 &&& 4294967295#64)) >>> (32#64).toNat)) &&& 4294967295#64) ((x0 &&& 4294967295#64) * (x1 >>> (32#64).toNat)) | exact congrArg _ (addUT ((((x0 >>> (32#64).toNat) * (x1 &&& 4294967295#64)) + (((x0 &&& 4294967295#64) * (x1 &&& 4294967295#64)) >>> (32#64).toNat)) &&& 4294967295#64) ((x0 &&& 4294967295#64) * (x1 >>> (32#64).toNat))) | (rw [addUT ((((x0 >>> (32#64).toNat) * (x1 &&& 4294967295#64)) + (((x0 &&& 4294967295#64) * (x1 &&& 4294967295#64)) >>> (32#64).toNat)) &&& 4294967295#64) ((x0 &&& 4294967295#64) * (x1 >>> (32#64).toNat))]; done) | (rw [addUT ((((x0 >>> (32#64).toNat) * (x1 &&& 4294967295#64)) + (((x0 &&& 4294967295#64) * (x1 &&& 4294967295#64)) >>> (32#64).toNat)) &&& 4294967295#64) ((x0 &&& 4294967295#64) * (x1 >>> (32#64).toNat))]; rfl))) ?_
  simp only [List.set_cons_succ, List.set_cons_zero]
  refine lin_val (i := 5) (v := .int .u64 (tn (((((x0 >>> (32#64).toNat) * (x1 &&& 4294967295#64)) + (((x0 &&& 4294967295#64) * (x1 &&& 4294967295#64)) >>> (32#64).toNat)) &&& 4294967295#64) + ((x0 &&& 4294967295#64) * (x1 >>> (32#64).toNat))))) rfl rfl (by rfl) (by intro x hx; go_simp; (first | done | exact rfl)) ?_
  simp only [List.set_cons_succ, List.set_cons_zero]
  refine lin_done ?_
  intro W9 hx
  replace HS := hid hx
  clear hx
  -- region 10
  go_upto_region 10 with fail
  refine lin_begin (St w []) rfl HS.out ?_
  refine lin_val (i := 0) (v := .int .u64 (tn (x0 >>> (32#64).toNat))) rfl rfl (by rfl) (by intro x hx; go_simp; (first | done | exact rfl)) ?_
  simp only [List.set_cons_succ, List.set_cons_zero]
  refine lin_val (i := 1) (v := .int .u64 (tn (x1 >>> (32#64).toNat))) rfl rfl (by rfl) (by intro x hx; go_simp; (first | done | exact rfl)) ?_
  simp only [List.set_cons_succ, List.set_cons_zero]
  refine lin_val (i := 2) (v := .int .u64 (tn ((x0 >>> (32#64).toNat) * (x1 >>> (32#64).toNat)))) rfl rfl (by rfl) (by intro x hx; go_simp; (first | done | exact mulUT (x0 >>> (32#64).toNat) (x1 >>> (32#64).toNat) | exact congrArg _ (mulUT (x0 >>> (32#64).toNat) (x1 >>> (32#64).toNat)) | (rw [mulUT (x0 >>> (32#64).toNat) (x1 >>> (32#64).toNat)]; done) | (rw [mulUT (x0 >>> (32#64).toNat) (x1 >>> (32#64).toNat)]; rfl))) ?_
  simp only [List.set_cons_succ, List.set_cons_zero]
  refine lin_val (i := 3) (v := .int .u64 (tn ((((x0 >>> (32#64).toNat) * (x1 &&& 4294967295#64)) + (((x0 &&& 4294967295#64) * (x1 &&& 4294967295#64)) >>> (32#64).toNat)) >>> (32#64).toNat))) rfl rfl (by rfl) (by intro x hx; go_simp; (first | done | exact rfl)) ?_
  simp only [List.set_cons_succ, List.set_cons_zero]
  refine lin_val (i := 4) (v := .int .u64 (tn (((x0 >>> (32#64).toNat) * (x1 >>> (32#64).toNat)) + ((((x0 >>> (32#64).toNat) * (x1 &&& 4294967295#64)) + (((x0 &&& 4294967295#64) * (x1 &&& 4294967295#64)) >>> (32#64).toNat)) >>> (32#64).toNat)))) rfl rfl (by rfl) (by intro x hx; go_simp; (first | done | exact addUT ((x0 >>> (32#64).toNat) * (x1 >>> (32#64).toNat)) ((((x0 >>> (32#64).toNat) * (x1 &&& 4294967295#64)) + (((x0 &&& 4294967295#64) * (x1 &&& 4294967295#64)) >>> (32#64).toNat)) >>> (32#64).toNat) | exact congrArg _ (addUT ((x0 >>> (32#64).toNat) * (x1 >>> (32#64).toNat)) ((((x0 >>> (32#64).toNat) * (x1 &&& 4294967295#64)) + (((x0 &&& 4294967295#64) * (x1 &&& 4294967295#64)) >>> (32#64).toNat)) >>> (32#64).toNat)) | (rw [addUT ((x0 >>> (32#64).toNat) * (x1 >>> (32#64).toNat)) ((((x0 >>> (32#64).toNat) * (x1 &&& 4294967295#64)) + (((x0 &&& 4294967295#64) * (x1 &&& 4294967295#64)) >>> (32#64).toNat)) >>> (32#64).toNat)]; done) | (rw [addUT ((x0 >>> (32#64).toNat) * (x1 >>> (32#64).toNat)) ((((x0 >>> (32#64).toNat) * (x1 &&& 4294967295#64)) + (((x0 &&& 4294967295#64) * (x1 &&& 4294967295#64)) >>> (32#64).toNat)) >>> (32#64).toNat)]; rfl))) ?_
  simp only [List.set_cons_succ, List.set_cons_zero]
  refine lin_val (i := 5) (v := .int .u64 (tn (((((x0 >>> (32#64).toNat) * (x1 &&& 4294967295#64)) + (((x0 &&& 4294967295#64) * (x1 &&& 4294967295#64)) >>> (32#64).toNat)) &&& 4294967295#64) + ((x0 &&& 4294967295#64) * (x1 >>> (32#64).toNat))))) rfl rfl (by rfl) (by intro x hx; go_simp; (first | done | exact rfl)) ?_
  simp only [List.set_cons_succ, List.set_cons_zero]
  refine lin_val (i := 6) (v := .int .u64 (tn ((((((x0 >>> (32#64).toNat) * (x1 &&& 4294967295#64)) + (((x0 &&& 4294967295#64) * (x1 &&& 4294967295#64)) >>> (32#64).toNat)) &&& 4294967295#64) + ((x0 &&& 4294967295#64) * (x1 >>> (32#64).toNat))) >>> (32#64).toNat))) rfl rfl (by rfl) (by intro x hx; have hy := tn_lo 32#64; go_simp; (first | done | exact shrUU (((((x0 >>> (32#64).toNat) * (x1 &&& 4294967295#64)) + (((x0 &&& 4294967295#64) * (x1 &&& 4294967295#64)) >>> (32#64).toNat)) &&& 4294967295#64) + ((x0 &&& 4294967295#64) * (x1 >>> (32#64).toNat))) 32#64 hy | exact congrArg _ (shrUU (((((x0 >>> (32#64).toNat) * (x1 &&& 4294967295#64)) + (((x0 &&& 4294967295#64) * (x1 &&& 4294967295#64)) >>> (32#64).toNat)) &&& 4294967295#64) + ((x0 &&& 4294967295#64) * (x1 >>> (32#64).toNat))) 32#64 hy) | (rw [shrUU (((((x0 >>> (32#64).toNat) * (x1 &&& 4294967295#64)) + (((x0 &&& 4294967295#64) * (x1 &&& 4294967295#64)) >>> (32#64).toNat)) &&& 4294967295#64) + ((x0 &&& 4294967295#64) * (x1 >>> (32#64).toNat))) 32#64 hy]; done) | (rw [shrUU (((((x0 >>> (32#64).toNat) * (x1 &&& 4294967295#64)) + (((x0 &&& 4294967295#64) * (x1 &&& 4294967295#64)) >>> (32#64).toNat)) &&& 4294967295#64) + ((x0 &&& 4294967295#64) * (x1 >>> (32#64).toNat))) 32#64 hy]; rfl))) ?_
  simp only [List.set_cons_succ, List.set_cons_zero]
  refine lin_val (i := 7) (v := .int .u64 (tn ((((x0 >>> (32#64).toNat) * (x1 >>> (32#64).toNat)) + ((((x0 >>> (32#64).toNat) * (x1 &&& 4294967295#64)) + (((x0 &&& 4294967295#64) * (x1 &&& 4294967295#64)) >>> (32#64).toNat)) >>> (32#64).toNat)) + ((((((x0 >>> (32#64).toNat) * (x1 &&& 4294967295#64)) + (((x0 &&& 4294967295#64) * (x1 &&& 4294967295#64)) >>> (32#64).toNat)) &&& 4294967295#64) + ((x0 &&& 4294967295#64) * (x1 >>> (32#64).toNat))) >>> (32#64).toNat)))) rfl rfl (by rfl) (by intro x hx; go_simp; (first | done | exact addUT (((x0 >>> (32#64).toNat) * (x1 >>> (32#64).toNat)) + ((((x0 >>> (32#64).toNat) * (x1 &&& 4294967295#64)) + (((x0 &&& 4294967295#64) * (x1 &&& 4294967295#64)) >>> (32#64).toNat)) >>> (32#64).toNat)) ((((((x0 >>> (32#64).toNat) * (x1 &&& 4294967295#64)) + (((x0 &&& 4294967295#64) * (x1 &&& 4294967295#64)) >>> (32#64).toNat)) &&& 4294967295#64) + ((x0 &&& 4294967295#64) * (x1 >>> (32#64).toNat))) >>> (32#64).toNat) | exact congrArg _ (addUT (((x0 >>> (32#64).toNat) * (x1 >>> (32#64).toNat)) + ((((x0 >>> (32#64).toNat) * (x1 &&& 4294967295#64)) + (((x0 &&& 4294967295#64) * (x1 &&& 4294967295#64)) >>> (32#64).toNat)) >>> (32#64).toNat)) ((((((x0 >>> (32#64).toNat) * (x1 &&& 4294967295#64)) + (((x0 &&& 4294967295#64) * (x1 &&& 4294967295#64)) >>> (32#64).toNat)) &&& 4294967295#64) + ((x0 &&& 4294967295#64) * (x1 >>> (32#64).toNat))) >>> (32#64).toNat)) | (rw [addUT (((x0 >>> (32#64).toNat) * (x1 >>> (32#64).toNat)) + ((((x0 >>> (32#64).toNat) * (x1 &&& 4294967295#64)) + (((x0 &&& 4294967295#64) * (x1 &&& 4294967295#64)) >>> (32#64).toNat)) >>> (32#64).toNat)) ((((((x0 >>> (32#64).toNat) * (x1 &&& 4294967295#64)) + (((x0 &&& 4294967295#64) * (x1 &&& 4294967295#64)) >>> (32#64).toNat)) &&& 4294967295#64) + ((x0 &&& 4294967295#64) * (x1 >>> (32#64).toNat))) >>> (32#64).toNat)]; done) | (rw [addUT (((x0 >>> (32#64).toNat) * (x1 >>> (32#64).toNat)) + ((((x0 >>> (32#64).toNat) * (x1 &&& 4294967295#64)) + (((x0 &&& 4294967295#64) * (x1 &&& 4294967295#64)) >>> (32#64).toNat)) >>> (32#64).toNat)) ((((((x0 >>> (32#64).toNat) * (x1 &&& 4294967295#64)) + (((x0 &&& 4294967295#64) * (x1 &&& 4294967295#64)) >>> (32#64).toNat)) &&& 4294967295#64) + ((x0 &&& 4294967295#64) * (x1 >>> (32#64).toNat))) >>> (32#64).toNat)]; rfl))) ?_
  simp only [List.set_cons_succ, List.set_cons_zero]
  refine lin_val (i := 8) (v := .int .u64 (tn ((((x0 >>> (32#64).toNat) * (x1 >>> (32#64).toNat)) + ((((x0 >>> (32#64).toNat) * (x1 &&& 4294967295#64)) + (((x0 &&& 4294967295#64) * (x1 &&& 4294967295#64)) >>> (32#64).toNat)) >>> (32#64).toNat)) + ((((((x0 >>> (32#64).toNat) * (x1 &&& 4294967295#64)) + (((x0 &&& 4294967295#64) * (x1 &&& 4294967295#64)) >>> (32#64).toNat)) &&& 4294967295#64) + ((x0 &&& 4294967295#64) * (x1 >>> (32#64).toNat))) >>> (32#64).toNat)))) rfl rfl (by rfl) (by intro x hx; go_simp; (first | done | exact rfl)) ?_
  simp only [List.set_cons_succ, List.set_cons_zero]
  refine lin_done ?_
  intro W10 hx
  replace HS := hid hx
  clear hx
  -- region 11
  go_upto_region 11 with fail
  refine lin_begin (St w []) rfl HS.out ?_
  refine lin_val (i := 0) (v := .int .u64 (tn (x0))) rfl rfl (by rfl) (by intro x hx; go_simp; (first | done | exact rfl)) ?_
  simp only [List.set_cons_succ, List.set_cons_zero]
  refine lin_val (i := 1) (v := .int .u64 (tn (x1))) rfl rfl (by rfl) (by intro x hx; go_simp; (first | done | exact rfl)) ?_
  simp only [List.set_cons_succ, List.set_cons_zero]
  refine lin_val (i := 2) (v := .int .u64 (tn (x0 * x1))) rfl rfl (by rfl) (by intro x hx; go_simp; (first | done | exact mulUT x0 x1 | exact congrArg _ (mulUT x0 x1) | (rw [mulUT x0 x1]; done) | (rw [mulUT x0 x1]; rfl))) ?_
  simp only [List.set_cons_succ, List.set_cons_zero]
  refine lin_val (i := 3) (v := .int .u64 (tn (x0 * x1))) rfl rfl (by rfl) (by intro x hx; go_simp; (first | done | exact rfl)) ?_
  simp only [List.set_cons_succ, List.set_cons_zero]
  refine lin_done ?_
  intro W11 hx
  replace HS := hid hx
  clear hx
  go_wp2
  have HF : bits_Mul64 x0 x1 = ((((x0 >>> (32#64).toNat) * (x1 >>> (32#64).toNat)) + ((((x0 >>> (32#64).toNat) * (x1 &&& 4294967295#64)) + (((x0 &&& 4294967295#64) * (x1 &&& 4294967295#64)) >>> (32#64).toNat)) >>> (32#64).toNat)) + ((((((x0 >>> (32#64).toNat) * (x1 &&& 4294967295#64)) + (((x0 &&& 4294967295#64) * (x1 &&& 4294967295#64)) >>> (32#64).toNat)) &&& 4294967295#64) + ((x0 &&& 4294967295#64) * (x1 >>> (32#64).toNat))) >>> (32#64).toNat), x0 * x1) := by
    unfold bits_Mul64
    rfl
  exact bodyPost_ret (v := .tuple #[.int .u64 (tn ((((x0 >>> (32#64).toNat) * (x1 >>> (32#64).toNat)) + ((((x0 >>> (32#64).toNat) * (x1 &&& 4294967295#64)) + (((x0 &&& 4294967295#64) * (x1 &&& 4294967295#64)) >>> (32#64).toNat)) >>> (32#64).toNat)) + ((((((x0 >>> (32#64).toNat) * (x1 &&& 4294967295#64)) + (((x0 &&& 4294967295#64) * (x1 &&& 4294967295#64)) >>> (32#64).toNat)) &&& 4294967295#64) + ((x0 &&& 4294967295#64) * (x1 >>> (32#64).toNat))) >>> (32#64).toNat))), .int .u64 (tn (x0 * x1))]) (by simp [results, Try.results92, go_sem]) rfl ⟨(by first | (rw [HF]; done) | (rw [HF]; rfl)), HS.out.below⟩
def span_Mul (x0 : P) (x1 : P) : P :=
  bif (((bits_Mul64 x0.hi x1.hi).1) != 0#64) then (P.mk 0#64 18446744073709551615#64) else (P.mk (x0.lo * x1.lo) ((bits_Mul64 x0.hi x1.hi).2))
set_option maxRecDepth 100000 in
set_option maxHeartbeats 1000000 in
theorem span_Mul_any (x0 : P) (x1 : P)  (w : World) :
    Calls Try.prog 29 #[.agg #[.int .u64 (tn (x0.lo)), .int .u64 (tn (x0.hi))], .agg #[.int .u64 (tn (x1.lo)), .int .u64 (tn (x1.hi))]] w fun e w' => e = .returned (.agg #[.int .u64 (tn ((span_Mul x0 x1).lo)), .int .u64 (tn ((span_Mul x0 x1).hi))]) ∧ Below w.heap.size w w' := by
  go_enter Try.func29, Try.ntmps29
  have HS := hid ((((st_nil w).alloc (k := w.heap.size) rfl [.int .u64 (tn (x0.lo)), .int .u64 (tn (x0.hi))] 24).alloc (k := w.heap.size + 1) (by simp) [.int .u64 (tn (x1.lo)), .int .u64 (tn (x1.hi))] 24).alloc (k := w.heap.size + 2) (by simp) [.int .u64 0, .int .u64 0] 24)
  -- region 1
  go_upto_region 1 with fail
  refine lin_begin (St w [⟨w.heap.size, [some (.int .u64 (tn (x0.lo))), some (.int .u64 (tn (x0.hi)))], 24⟩, ⟨w.heap.size + 1, [some (.int .u64 (tn (x1.lo))), some (.int .u64 (tn (x1.hi)))], 24⟩, ⟨w.heap.size + 2, [some (.int .u64 0), some (.int .u64 0)], 24⟩]) rfl HS.out ?_
  refine lin_val (i := 0) (v := .pointer (some ⟨w.heap.size, 1, none⟩)) rfl rfl (by rfl) (by intro x hx; go_simp; (first | done | exact rfl)) ?_
  simp only [List.set_cons_succ, List.set_cons_zero]
  refine lin_val (i := 1) (v := .int .u64 (tn (x0.hi))) rfl rfl (by rfl) (by intro x hx; have f0 := hx.load 0 1 rfl rfl; go_simp; (first | done | exact rfl)) ?_
  simp only [List.set_cons_succ, List.set_cons_zero]
  refine lin_val (i := 2) (v := .pointer (some ⟨w.heap.size + 1, 1, none⟩)) rfl rfl (by rfl) (by intro x hx; go_simp; (first | done | exact rfl)) ?_
  simp only [List.set_cons_succ, List.set_cons_zero]
  refine lin_val (i := 3) (v := .int .u64 (tn (x1.hi))) rfl rfl (by rfl) (by intro x hx; have f0 := hx.load 1 1 rfl rfl; go_simp; (first | done | exact rfl)) ?_
  simp only [List.set_cons_succ, List.set_cons_zero]
  refine lin_call (i := 4) (f := 92) (args := #[.int .u64 (tn (x0.hi)), .int .u64 (tn (x1.hi))]) (v := .tuple #[.int .u64 (tn ((bits_Mul64 x0.hi x1.hi).1)), .int .u64 (tn ((bits_Mul64 x0.hi x1.hi).2))]) (st_ups _ _) rfl rfl (by rfl) (fun x hx => by kernel_rfl) (by intro x hx; exact bits_Mul64_any x0.hi x1.hi _) ?_
  simp only [List.set_cons_succ, List.set_cons_zero]
  refine lin_val (i := 5) (v := .tuple #[.int .u64 (tn ((bits_Mul64 x0.hi x1.hi).1)), .int .u64 (tn ((bits_Mul64 x0.hi x1.hi).2))]) rfl rfl (by rfl) (by intro x hx; go_simp; (first | done | exact rfl)) ?_
  simp only [List.set_cons_succ, List.set_cons_zero]
  refine lin_val (i := 6) (v := .int .u64 (tn ((bits_Mul64 x0.hi x1.hi).1))) rfl rfl (by rfl) (by intro x hx; go_simp; (first | done | exact rfl)) ?_
  simp only [List.set_cons_succ, List.set_cons_zero]
  refine lin_val (i := 7) (v := .int .u64 (tn ((bits_Mul64 x0.hi x1.hi).2))) rfl rfl (by rfl) (by intro x hx; go_simp; (first | done | exact rfl)) ?_
  simp only [List.set_cons_succ, List.set_cons_zero]
  refine lin_val (i := 8) (v := .int .u64 (tn ((bits_Mul64 x0.hi x1.hi).1))) rfl rfl (by rfl) (by intro x hx; go_simp; (first | done | exact rfl)) ?_
  simp only [List.set_cons_succ, List.set_cons_zero]
  refine lin_val (i := 9) (v := .int .u64 (tn ((bits_Mul64 x0.hi x1.hi).2))) rfl rfl (by rfl) (by intro x hx; go_simp; (first | done | exact rfl)) ?_
  simp only [List.set_cons_succ, List.set_cons_zero]
  refine lin_done ?_
  intro W1 hx
  replace HS := hid hx
  clear hx
  -- region 2
  go_upto_region 2 with fail
  refine lin_begin (St w [⟨w.heap.size, [some (.int .u64 (tn (x0.lo))), some (.int .u64 (tn (x0.hi)))], 24⟩, ⟨w.heap.size + 1, [some (.int .u64 (tn (x1.lo))), some (.int .u64 (tn (x1.hi)))], 24⟩, ⟨w.heap.size + 2, [some (.int .u64 0), some (.int .u64 0)], 24⟩]) rfl HS.out ?_
  refine lin_val (i := 0) (v := .int .u64 (tn ((bits_Mul64 x0.hi x1.hi).1))) rfl rfl (by rfl) (by intro x hx; go_simp; (first | done | exact rfl)) ?_
  simp only [List.set_cons_succ, List.set_cons_zero]
  refine lin_val (i := 1) (v := .bool ((((bits_Mul64 x0.hi x1.hi).1) != 0#64))) rfl rfl (by rfl) (by intro x hx; go_simp; (first | done | exact neUT ((bits_Mul64 x0.hi x1.hi).1) 0#64 | exact congrArg _ (neUT ((bits_Mul64 x0.hi x1.hi).1) 0#64) | (rw [neUT ((bits_Mul64 x0.hi x1.hi).1) 0#64]; done) | (rw [neUT ((bits_Mul64 x0.hi x1.hi).1) 0#64]; rfl))) ?_
  simp only [List.set_cons_succ, List.set_cons_zero]
  refine lin_done ?_
  intro W2 hx
  replace HS := hid hx
  clear hx
  cases h1 : ((((bits_Mul64 x0.hi x1.hi).1) != 0#64))
  · replace h1 := hid h1
    -- region 4
    go_upto_region 4 with fail
    refine lin_begin (St w [⟨w.heap.size, [some (.int .u64 (tn (x0.lo))), some (.int .u64 (tn (x0.hi)))], 24⟩, ⟨w.heap.size + 1, [some (.int .u64 (tn (x1.lo))), some (.int .u64 (tn (x1.hi)))], 24⟩, ⟨w.heap.size + 2, [some (.int .u64 0), some (.int .u64 0)], 24⟩]) rfl HS.out ?_
    refine lin_val (i := 0) (v := .pointer (some ⟨w.heap.size, 0, none⟩)) rfl rfl (by rfl) (by intro x hx; go_simp; (first | done | exact rfl)) ?_
    simp only [List.set_cons_succ, List.set_cons_zero]
    refine lin_val (i := 1) (v := .int .u64 (tn (x0.lo))) rfl rfl (by rfl) (by intro x hx; have f0 := hx.load 0 0 rfl rfl; go_simp; (first | done | exact rfl)) ?_
    simp only [List.set_cons_succ, List.set_cons_zero]
    refine lin_val (i := 2) (v := .pointer (some ⟨w.heap.size + 1, 0, none⟩)) rfl rfl (by rfl) (by intro x hx; go_simp; (first | done | exact rfl)) ?_
    simp only [List.set_cons_succ, List.set_cons_zero]
    refine lin_val (i := 3) (v := .int .u64 (tn (x1.lo))) rfl rfl (by rfl) (by intro x hx; have f0 := hx.load 1 0 rfl rfl; go_simp; (first | done | exact rfl)) ?_
    simp only [List.set_cons_succ, List.set_cons_zero]
    refine lin_val (i := 4) (v := .int .u64 (tn (x0.lo * x1.lo))) rfl rfl (by rfl) (by intro x hx; go_simp; (first | done | exact mulUT x0.lo x1.lo | exact congrArg _ (mulUT x0.lo x1.lo) | (rw [mulUT x0.lo x1.lo]; done) | (rw [mulUT x0.lo x1.lo]; rfl))) ?_
    simp only [List.set_cons_succ, List.set_cons_zero]
    refine lin_val (i := 5) (v := .int .u64 (tn ((bits_Mul64 x0.hi x1.hi).2))) rfl rfl (by rfl) (by intro x hx; go_simp; (first | done | exact rfl)) ?_
    simp only [List.set_cons_succ, List.set_cons_zero]
    refine lin_val (i := 6) (v := .agg #[.int .u64 (tn (x0.lo * x1.lo)), .int .u64 (tn ((bits_Mul64 x0.hi x1.hi).2))]) rfl rfl (by rfl) (by intro x hx; go_simp; (first | done | exact rfl)) ?_
    simp only [List.set_cons_succ, List.set_cons_zero]
    refine lin_store (i := 7) (St w [⟨w.heap.size, [some (.int .u64 (tn (x0.lo))), some (.int .u64 (tn (x0.hi)))], 24⟩, ⟨w.heap.size + 1, [some (.int .u64 (tn (x1.lo))), some (.int .u64 (tn (x1.hi)))], 24⟩, ⟨w.heap.size + 2, [some (.int .u64 (tn (x0.lo * x1.lo))), some (.int .u64 (tn ((bits_Mul64 x0.hi x1.hi).2)))], 24⟩]) rfl rfl (by rfl) (fun x => ((x.setCell ⟨w.heap.size + 2, 0, none⟩ (.int .u64 (tn (x0.lo * x1.lo)))).setCell ⟨w.heap.size + 2, 1, none⟩ (.int .u64 (tn ((bits_Mul64 x0.hi x1.hi).2))))) (by intro x hx; obtain ⟨u0, z0⟩ := hx.has 2 0 rfl (by simp); have q0 := hx.soft 2 0 rfl; obtain ⟨u1, z1⟩ := hx.has 2 1 rfl (by simp); have q1 := hx.soft 2 1 rfl; go_simp; (first | done | rfl)) (fun x hx => ((hx.put 2 0 (.int .u64 (tn (x0.lo * x1.lo))) rfl).put 2 1 (.int .u64 (tn ((bits_Mul64 x0.hi x1.hi).2))) rfl)) ?_
    refine lin_done ?_
    intro W3 hx
    replace HS := hid hx
    clear hx
    go_wp2
    have r0 := HS.out.load 2 0 rfl rfl
    have r1 := HS.out.load 2 1 rfl rfl
    have HF : span_Mul x0 x1 = P.mk (x0.lo * x1.lo) ((bits_Mul64 x0.hi x1.hi).2) := by
      unfold span_Mul
      rw [cond_f h1.out]
    exact bodyPost_ret (v := .agg #[.int .u64 (tn (x0.lo * x1.lo)), .int .u64 (tn ((bits_Mul64 x0.hi x1.hi).2))]) (by simp [results, Try.results29, go_sem, r0, r1]) rfl ⟨(by first | (rw [HF]; done) | (rw [HF]; rfl)), HS.out.below⟩
  · replace h1 := hid h1
    -- region 3
    go_upto_region 3 with fail
    refine lin_begin (St w [⟨w.heap.size, [some (.int .u64 (tn (x0.lo))), some (.int .u64 (tn (x0.hi)))], 24⟩, ⟨w.heap.size + 1, [some (.int .u64 (tn (x1.lo))), some (.int .u64 (tn (x1.hi)))], 24⟩, ⟨w.heap.size + 2, [some (.int .u64 0), some (.int .u64 0)], 24⟩]) rfl HS.out ?_
    refine lin_call (i := 0) (f := 17) (args := #[]) (v := .agg #[.int .u64 (tn (0#64)), .int .u64 (tn (18446744073709551615#64))]) (st_ups _ _) rfl rfl (by rfl) (fun x hx => by kernel_rfl) (by intro x hx; exact span_All_any _) ?_
    simp only [List.set_cons_succ, List.set_cons_zero]
    refine lin_store (i := 1) (St w [⟨w.heap.size, [some (.int .u64 (tn (x0.lo))), some (.int .u64 (tn (x0.hi)))], 24⟩, ⟨w.heap.size + 1, [some (.int .u64 (tn (x1.lo))), some (.int .u64 (tn (x1.hi)))], 24⟩, ⟨w.heap.size + 2, [some (.int .u64 (tn (0#64))), some (.int .u64 (tn (18446744073709551615#64)))], 24⟩]) rfl rfl (by rfl) (fun x => ((x.setCell ⟨w.heap.size + 2, 0, none⟩ (.int .u64 (tn (0#64)))).setCell ⟨w.heap.size + 2, 1, none⟩ (.int .u64 (tn (18446744073709551615#64))))) (by intro x hx; obtain ⟨u0, z0⟩ := hx.has 2 0 rfl (by simp); have q0 := hx.soft 2 0 rfl; obtain ⟨u1, z1⟩ := hx.has 2 1 rfl (by simp); have q1 := hx.soft 2 1 rfl; go_simp; (first | done | rfl)) (fun x hx => ((hx.put 2 0 (.int .u64 (tn (0#64))) rfl).put 2 1 (.int .u64 (tn (18446744073709551615#64))) rfl)) ?_
    refine lin_done ?_
    intro W3 hx
    replace HS := hid hx
    clear hx
    go_wp2
    have r0 := HS.out.load 2 0 rfl rfl
    have r1 := HS.out.load 2 1 rfl rfl
    have HF : span_Mul x0 x1 = P.mk 0#64 18446744073709551615#64 := by
      unfold span_Mul
      rw [cond_t h1.out]
    exact bodyPost_ret (v := .agg #[.int .u64 (tn (0#64)), .int .u64 (tn (18446744073709551615#64))]) (by simp [results, Try.results29, go_sem, r0, r1]) rfl ⟨(by first | (rw [HF]; done) | (rw [HF]; rfl)), HS.out.below⟩
set_option maxRecDepth 100000 in
set_option maxHeartbeats 1000000 in
theorem span_Lsh_any (x0 : P) (x1 : BitVec 64)  (w : World) :
    Calls Try.prog 41 #[.agg #[.int .u64 (tn (x0.lo)), .int .u64 (tn (x0.hi))], .int .i64 (ti (x1))] w fun e w' => e = .returned (.agg #[.int .u64 (tn ((span_Mul x0 (P.mk (1#64 <<< (x1 % 64#64).toNat) (1#64 <<< (x1 % 64#64).toNat))).lo)), .int .u64 (tn ((span_Mul x0 (P.mk (1#64 <<< (x1 % 64#64).toNat) (1#64 <<< (x1 % 64#64).toNat))).hi))]) ∧ Below w.heap.size w w' := by
  go_enter Try.func41, Try.ntmps41
  have HS := hid (((st_nil w).alloc (k := w.heap.size) rfl [.int .u64 (tn (x0.lo)), .int .u64 (tn (x0.hi))] 24).alloc (k := w.heap.size + 1) (by simp) [.int .u64 0, .int .u64 0] 24)
  -- region 1
  go_upto_region 1 with fail
  refine up_begin (St w [⟨w.heap.size, [some (.int .u64 (tn (x0.lo))), some (.int .u64 (tn (x0.hi)))], 24⟩, ⟨w.heap.size + 1, [none, none], 24⟩]) 7 rfl (by kernel_rfl) (St.less HS.out.drew (less_cons rfl rfl (lessC_eq (lessC_eq (trivial))) (less_cons rfl rfl (lessC_no (lessC_no (trivial))) (trivial)))) ?_
  refine take_val (i := 0) (v := .agg #[.int .u64 (tn (x0.lo)), .int .u64 (tn (x0.hi))]) (st_ups _ _) rfl rfl (by kernel_rfl) (fun _ _ _ h => h) (by rfl) (by intro x hx; have f0 := hx.load 0 0 rfl rfl; have f1 := hx.load 0 1 rfl rfl; go_simp; (first | done | exact rfl)) ?_
  simp only [List.set_cons_succ, List.set_cons_zero]
  refine take_val (i := 1) (v := .int .i64 (ti (x1))) (st_ups _ _) rfl rfl (by kernel_rfl) (fun _ _ _ h => h) (by rfl) (by intro x hx; go_simp; (first | done | exact rfl)) ?_
  simp only [List.set_cons_succ, List.set_cons_zero]
  refine take_call (i := 2) (f := 96) (args := #[.int .i64 (ti (x1))]) (v := .int .u64 (tn (x1 % 64#64))) (st_ups _ _) rfl rfl (by kernel_rfl) (fun _ _ _ h => h) (by rfl) (fun x hx => by kernel_rfl) (by intro x hx; exact span_count_any x1 _) ?_
  simp only [List.set_cons_succ, List.set_cons_zero]
  refine take_val (i := 3) (v := .int .u64 (tn (1#64 <<< (x1 % 64#64).toNat))) (st_ups _ _) rfl rfl (by kernel_rfl) (fun _ _ _ h => h) (by rfl) (by intro x hx; have hy := tn_lo (x1 % 64#64); go_simp; (first | done | exact shl1U (x1 % 64#64) hy | exact shlUUr 1#64 (x1 % 64#64) hy | exact shlUU 1#64 (x1 % 64#64) hy | exact congrArg _ (shlUU 1#64 (x1 % 64#64) hy) | (rw [shlUU 1#64 (x1 % 64#64) hy]; done) | (rw [shlUU 1#64 (x1 % 64#64) hy]; rfl))) ?_
  simp only [List.set_cons_succ, List.set_cons_zero]
  refine take_call (i := 4) (f := 15) (args := #[.int .u64 (tn (1#64 <<< (x1 % 64#64).toNat))]) (v := .agg #[.int .u64 (tn (1#64 <<< (x1 % 64#64).toNat)), .int .u64 (tn (1#64 <<< (x1 % 64#64).toNat))]) (st_ups _ _) rfl rfl (by kernel_rfl) (fun _ _ _ h => h) (by rfl) (fun x hx => by kernel_rfl) (by intro x hx; exact span_Of_any (1#64 <<< (x1 % 64#64).toNat) _) ?_
  simp only [List.set_cons_succ, List.set_cons_zero]
  refine take_call (i := 5) (f := 29) (args := #[.agg #[.int .u64 (tn (x0.lo)), .int .u64 (tn (x0.hi))], .agg #[.int .u64 (tn (1#64 <<< (x1 % 64#64).toNat)), .int .u64 (tn (1#64 <<< (x1 % 64#64).toNat))]]) (v := .agg #[.int .u64 (tn ((span_Mul x0 (P.mk (1#64 <<< (x1 % 64#64).toNat) (1#64 <<< (x1 % 64#64).toNat))).lo)), .int .u64 (tn ((span_Mul x0 (P.mk (1#64 <<< (x1 % 64#64).toNat) (1#64 <<< (x1 % 64#64).toNat))).hi))]) (st_ups _ _) rfl rfl (by kernel_rfl) (fun _ _ _ h => h) (by rfl) (fun x hx => by kernel_rfl) (by intro x hx; exact span_Mul_any x0 (P.mk (1#64 <<< (x1 % 64#64).toNat) (1#64 <<< (x1 % 64#64).toNat)) _) ?_
  simp only [List.set_cons_succ, List.set_cons_zero]
  refine take_one (i := 6) (by kernel_rfl) (step_store (St w [⟨w.heap.size, [some (.int .u64 (tn (x0.lo))), some (.int .u64 (tn (x0.hi)))], 24⟩, ⟨w.heap.size + 1, [some (.int .u64 (tn ((span_Mul x0 (P.mk (1#64 <<< (x1 % 64#64).toNat) (1#64 <<< (x1 % 64#64).toNat))).lo))), some (.int .u64 (tn ((span_Mul x0 (P.mk (1#64 <<< (x1 % 64#64).toNat) (1#64 <<< (x1 % 64#64).toNat))).hi)))], 24⟩]) (st_ups _ _) (fun x h => h.less (less_cons rfl rfl (lessC_eq (lessC_eq (trivial))) (less_cons rfl rfl (lessC_no (lessC_no (trivial))) (trivial)))) rfl rfl (by rfl) (fun x => ((x.setCell ⟨w.heap.size + 1, 0, none⟩ (.int .u64 (tn ((span_Mul x0 (P.mk (1#64 <<< (x1 % 64#64).toNat) (1#64 <<< (x1 % 64#64).toNat))).lo)))).setCell ⟨w.heap.size + 1, 1, none⟩ (.int .u64 (tn ((span_Mul x0 (P.mk (1#64 <<< (x1 % 64#64).toNat) (1#64 <<< (x1 % 64#64).toNat))).hi))))) (by intro x hx; obtain ⟨u0, z0⟩ := hx.has 1 0 rfl (by simp); have q0 := hx.soft 1 0 rfl; obtain ⟨u1, z1⟩ := hx.has 1 1 rfl (by simp); have q1 := hx.soft 1 1 rfl; go_simp; (first | done | rfl)) (fun x hx => ((hx.put 1 0 (.int .u64 (tn ((span_Mul x0 (P.mk (1#64 <<< (x1 % 64#64).toNat) (1#64 <<< (x1 % 64#64).toNat))).lo))) rfl).put 1 1 (.int .u64 (tn ((span_Mul x0 (P.mk (1#64 <<< (x1 % 64#64).toNat) (1#64 <<< (x1 % 64#64).toNat))).hi))) rfl)) ?_)
  refine take_done (by kernel_rfl) ?_ _
  intro W1 hx
  replace HS := hid hx
  clear hx
  go_wp2
  have r0 := HS.out.load 1 0 rfl rfl
  have r1 := HS.out.load 1 1 rfl rfl
  exact bodyPost_ret (v := .agg #[.int .u64 (tn ((span_Mul x0 (P.mk (1#64 <<< (x1 % 64#64).toNat) (1#64 <<< (x1 % 64#64).toNat))).lo)), .int .u64 (tn ((span_Mul x0 (P.mk (1#64 <<< (x1 % 64#64).toNat) (1#64 <<< (x1 % 64#64).toNat))).hi))]) (by simp [results, Try.results41, go_sem, r0, r1]) rfl ⟨rfl, HS.out.below⟩
end Go.Proofs.Ytoojdndfjfmemaa.Sp
