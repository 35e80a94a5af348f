/-
  The contracts of span's calls: sums, joins.
-/
import Derived.Deep.DeepCutAuto
import Derived.Test.YtoojdndfjfmemaaOps
namespace Go.Proofs.Ytoojdndfjfmemaa.Sp
open Go.RowKit Go.Proofs.Ytoojdndfjfmemaa.Num Go.Proofs.Ytoojdndfjfmemaa.Up
set_option maxRecDepth 100000 in
set_option maxHeartbeats 1000000 in
theorem span_only_uint64_any (x0 : BitVec 64)  (w : World) :
    Calls Try.prog 85 #[.int .u64 (tn (x0))] w fun e w' => e = .returned (.agg #[.int .u64 (tn (x0)), .int .u64 (tn (x0))]) ∧ Below w.heap.size w w' := by
  go_enter Try.func85, Try.ntmps85
  have HS := hid ((st_nil w).alloc (k := w.heap.size) rfl [.int .u64 0, .int .u64 0] 71)
  -- region 1
  go_upto_region 1 with fail
  refine lin_begin (St w [⟨w.heap.size, [some (.int .u64 0), some (.int .u64 0)], 71⟩]) rfl HS.out ?_
  refine lin_val (i := 0) (v := .int .u64 (tn (x0))) rfl rfl (by rfl) (by intro x hx; go_simp; (first | done | exact rfl)) ?_
  simp only [List.set_cons_succ, List.set_cons_zero]
  refine lin_val (i := 1) (v := .int .u64 (tn (x0))) rfl rfl (by rfl) (by intro x hx; go_simp; (first | done | exact rfl)) ?_
  simp only [List.set_cons_succ, List.set_cons_zero]
  refine lin_val (i := 2) (v := .agg #[.int .u64 (tn (x0)), .int .u64 (tn (x0))]) rfl rfl (by rfl) (by intro x hx; go_simp; (first | done | exact rfl)) ?_
  simp only [List.set_cons_succ, List.set_cons_zero]
  refine lin_store (i := 3) (St w [⟨w.heap.size, [some (.int .u64 (tn (x0))), some (.int .u64 (tn (x0)))], 71⟩]) rfl rfl (by rfl) (fun x => ((x.setCell ⟨w.heap.size, 0, none⟩ (.int .u64 (tn (x0)))).setCell ⟨w.heap.size, 1, none⟩ (.int .u64 (tn (x0))))) (by intro x hx; obtain ⟨u0, z0⟩ := hx.has 0 0 rfl (by simp); have q0 := hx.soft 0 0 rfl; obtain ⟨u1, z1⟩ := hx.has 0 1 rfl (by simp); have q1 := hx.soft 0 1 rfl; go_simp; (first | done | rfl)) (fun x hx => ((hx.put 0 0 (.int .u64 (tn (x0))) rfl).put 0 1 (.int .u64 (tn (x0))) rfl)) ?_
  refine lin_done ?_
  intro W1 hx
  replace HS := hid hx
  clear hx
  go_wp2
  have r0 := HS.out.load 0 0 rfl rfl
  have r1 := HS.out.load 0 1 rfl rfl
  exact bodyPost_ret (v := .agg #[.int .u64 (tn (x0)), .int .u64 (tn (x0))]) (by simp [results, Try.results85, go_sem, r0, r1]) rfl ⟨rfl, HS.out.below⟩
set_option maxRecDepth 100000 in
set_option maxHeartbeats 1000000 in
theorem span_toUnsigned_any (x0 : P)  (w : World) :
    Calls Try.prog 84 #[.agg #[.int .u64 (tn (x0.lo)), .int .u64 (tn (x0.hi))]] w fun e w' => e = .returned (.agg #[.int .u64 (tn (x0.lo)), .int .u64 (tn (x0.hi))]) ∧ Below w.heap.size w w' := by
  go_enter Try.func84, Try.ntmps84
  have HS := hid (((st_nil w).alloc (k := w.heap.size) rfl [.int .u64 (tn (x0.lo)), .int .u64 (tn (x0.hi))] 71).alloc (k := w.heap.size + 1) (by simp) [.int .u64 0, .int .u64 0] 24)
  -- region 1
  go_upto_region 1 with fail
  refine lin_begin (St w [⟨w.heap.size, [some (.int .u64 (tn (x0.lo))), some (.int .u64 (tn (x0.hi)))], 71⟩, ⟨w.heap.size + 1, [some (.int .u64 0), some (.int .u64 0)], 24⟩]) rfl HS.out ?_
  refine lin_val (i := 0) (v := .pointer (some ⟨w.heap.size, 0, none⟩)) rfl rfl (by rfl) (by intro x hx; go_simp; (first | done | exact rfl)) ?_
  simp only [List.set_cons_succ, List.set_cons_zero]
  refine lin_val (i := 1) (v := .int .u64 (tn (x0.lo))) rfl rfl (by rfl) (by intro x hx; have f0 := hx.load 0 0 rfl rfl; go_simp; (first | done | exact rfl)) ?_
  simp only [List.set_cons_succ, List.set_cons_zero]
  refine lin_val (i := 2) (v := .pointer (some ⟨w.heap.size, 1, none⟩)) rfl rfl (by rfl) (by intro x hx; go_simp; (first | done | exact rfl)) ?_
  simp only [List.set_cons_succ, List.set_cons_zero]
  refine lin_val (i := 3) (v := .int .u64 (tn (x0.hi))) rfl rfl (by rfl) (by intro x hx; have f0 := hx.load 0 1 rfl rfl; go_simp; (first | done | exact rfl)) ?_
  simp only [List.set_cons_succ, List.set_cons_zero]
  refine lin_val (i := 4) (v := .agg #[.int .u64 (tn (x0.lo)), .int .u64 (tn (x0.hi))]) rfl rfl (by rfl) (by intro x hx; go_simp; (first | done | exact rfl)) ?_
  simp only [List.set_cons_succ, List.set_cons_zero]
  refine lin_store (i := 5) (St w [⟨w.heap.size, [some (.int .u64 (tn (x0.lo))), some (.int .u64 (tn (x0.hi)))], 71⟩, ⟨w.heap.size + 1, [some (.int .u64 (tn (x0.lo))), some (.int .u64 (tn (x0.hi)))], 24⟩]) rfl rfl (by rfl) (fun x => ((x.setCell ⟨w.heap.size + 1, 0, none⟩ (.int .u64 (tn (x0.lo)))).setCell ⟨w.heap.size + 1, 1, none⟩ (.int .u64 (tn (x0.hi))))) (by intro x hx; obtain ⟨u0, z0⟩ := hx.has 1 0 rfl (by simp); have q0 := hx.soft 1 0 rfl; obtain ⟨u1, z1⟩ := hx.has 1 1 rfl (by simp); have q1 := hx.soft 1 1 rfl; go_simp; (first | done | rfl)) (fun x hx => ((hx.put 1 0 (.int .u64 (tn (x0.lo))) rfl).put 1 1 (.int .u64 (tn (x0.hi))) rfl)) ?_
  refine lin_done ?_
  intro W1 hx
  replace HS := hid hx
  clear hx
  go_wp2
  have r0 := HS.out.load 1 0 rfl rfl
  have r1 := HS.out.load 1 1 rfl rfl
  exact bodyPost_ret (v := .agg #[.int .u64 (tn (x0.lo)), .int .u64 (tn (x0.hi))]) (by simp [results, Try.results84, go_sem, r0, r1]) rfl ⟨rfl, HS.out.below⟩
set_option maxRecDepth 100000 in
set_option maxHeartbeats 1000000 in
theorem span_Of_any (x0 : BitVec 64)  (w : World) :
    Calls Try.prog 15 #[.int .u64 (tn (x0))] w fun e w' => e = .returned (.agg #[.int .u64 (tn (x0)), .int .u64 (tn (x0))]) ∧ Below w.heap.size w w' := by
  go_enter Try.func15, Try.ntmps15
  have HS := hid ((st_nil w).alloc (k := w.heap.size) rfl [.int .u64 0, .int .u64 0] 24)
  -- region 1
  go_upto_region 1 with fail
  refine lin_begin (St w [⟨w.heap.size, [some (.int .u64 0), some (.int .u64 0)], 24⟩]) rfl HS.out ?_
  refine lin_val (i := 0) (v := .int .u64 (tn (x0))) rfl rfl (by rfl) (by intro x hx; go_simp; (first | done | exact rfl)) ?_
  simp only [List.set_cons_succ, List.set_cons_zero]
  refine lin_call (i := 1) (f := 85) (args := #[.int .u64 (tn (x0))]) (v := .agg #[.int .u64 (tn (x0)), .int .u64 (tn (x0))]) (st_ups _ _) rfl rfl (by rfl) (fun x hx => by kernel_rfl) (by intro x hx; exact span_only_uint64_any x0 _) ?_
  simp only [List.set_cons_succ, List.set_cons_zero]
  refine lin_call (i := 2) (f := 84) (args := #[.agg #[.int .u64 (tn (x0)), .int .u64 (tn (x0))]]) (v := .agg #[.int .u64 (tn (x0)), .int .u64 (tn (x0))]) (st_ups _ _) rfl rfl (by rfl) (fun x hx => by kernel_rfl) (by intro x hx; exact span_toUnsigned_any (P.mk x0 x0) _) ?_
  simp only [List.set_cons_succ, List.set_cons_zero]
  refine lin_store (i := 3) (St w [⟨w.heap.size, [some (.int .u64 (tn (x0))), some (.int .u64 (tn (x0)))], 24⟩]) rfl rfl (by rfl) (fun x => ((x.setCell ⟨w.heap.size, 0, none⟩ (.int .u64 (tn (x0)))).setCell ⟨w.heap.size, 1, none⟩ (.int .u64 (tn (x0))))) (by intro x hx; obtain ⟨u0, z0⟩ := hx.has 0 0 rfl (by simp); have q0 := hx.soft 0 0 rfl; obtain ⟨u1, z1⟩ := hx.has 0 1 rfl (by simp); have q1 := hx.soft 0 1 rfl; go_simp; (first | done | rfl)) (fun x hx => ((hx.put 0 0 (.int .u64 (tn (x0))) rfl).put 0 1 (.int .u64 (tn (x0))) rfl)) ?_
  refine lin_done ?_
  intro W1 hx
  replace HS := hid hx
  clear hx
  go_wp2
  have r0 := HS.out.load 0 0 rfl rfl
  have r1 := HS.out.load 0 1 rfl rfl
  exact bodyPost_ret (v := .agg #[.int .u64 (tn (x0)), .int .u64 (tn (x0))]) (by simp [results, Try.results15, go_sem, r0, r1]) rfl ⟨rfl, HS.out.below⟩
set_option maxRecDepth 100000 in
set_option maxHeartbeats 1000000 in
theorem span_All_any   (w : World) :
    Calls Try.prog 17 #[] w fun e w' => e = .returned (.agg #[.int .u64 (tn (0#64)), .int .u64 (tn (18446744073709551615#64))]) ∧ Below w.heap.size w w' := by
  go_enter Try.func17, Try.ntmps17
  have HS := hid ((st_nil w).alloc (k := w.heap.size) rfl [.int .u64 0, .int .u64 0] 24)
  -- region 1
  go_upto_region 1 with fail
  refine lin_begin (St w [⟨w.heap.size, [some (.int .u64 0), some (.int .u64 0)], 24⟩]) rfl HS.out ?_
  refine lin_val (i := 0) (v := .agg #[.int .u64 0, .int .u64 18446744073709551615]) rfl rfl (by rfl) (by intro x hx; go_simp; (first | done | exact rfl)) ?_
  simp only [List.set_cons_succ, List.set_cons_zero]
  refine lin_store (i := 1) (St w [⟨w.heap.size, [some (.int .u64 0), some (.int .u64 18446744073709551615)], 24⟩]) rfl rfl (by rfl) (fun x => ((x.setCell ⟨w.heap.size, 0, none⟩ (.int .u64 0)).setCell ⟨w.heap.size, 1, none⟩ (.int .u64 18446744073709551615))) (by intro x hx; obtain ⟨u0, z0⟩ := hx.has 0 0 rfl (by simp); have q0 := hx.soft 0 0 rfl; obtain ⟨u1, z1⟩ := hx.has 0 1 rfl (by simp); have q1 := hx.soft 0 1 rfl; go_simp; (first | done | rfl)) (fun x hx => ((hx.put 0 0 (.int .u64 0) rfl).put 0 1 (.int .u64 18446744073709551615) rfl)) ?_
  refine lin_done ?_
  intro W1 hx
  replace HS := hid hx
  clear hx
  go_wp2
  have r0 := HS.out.load 0 0 rfl rfl
  have r1 := HS.out.load 0 1 rfl rfl
  exact bodyPost_ret (v := .agg #[.int .u64 0, .int .u64 18446744073709551615]) (by simp [results, Try.results17, go_sem, r0, r1]) rfl ⟨rfl, HS.out.below⟩
set_option maxRecDepth 100000 in
set_option maxHeartbeats 1000000 in
theorem span_unsigned_any (x0 : P)  (w : World) :
    Calls Try.prog 83 #[.agg #[.int .u64 (tn (x0.lo)), .int .u64 (tn (x0.hi))]] w fun e w' => e = .returned (.agg #[.int .u64 (tn (x0.lo)), .int .u64 (tn (x0.hi))]) ∧ Below w.heap.size w w' := by
  go_enter Try.func83, Try.ntmps83
  have HS := hid (((st_nil w).alloc (k := w.heap.size) rfl [.int .u64 (tn (x0.lo)), .int .u64 (tn (x0.hi))] 24).alloc (k := w.heap.size + 1) (by simp) [.int .u64 0, .int .u64 0] 71)
  -- region 1
  go_upto_region 1 with fail
  refine lin_begin (St w [⟨w.heap.size, [some (.int .u64 (tn (x0.lo))), some (.int .u64 (tn (x0.hi)))], 24⟩, ⟨w.heap.size + 1, [some (.int .u64 0), some (.int .u64 0)], 71⟩]) rfl HS.out ?_
  refine lin_val (i := 0) (v := .pointer (some ⟨w.heap.size, 0, none⟩)) rfl rfl (by rfl) (by intro x hx; go_simp; (first | done | exact rfl)) ?_
  simp only [List.set_cons_succ, List.set_cons_zero]
  refine lin_val (i := 1) (v := .int .u64 (tn (x0.lo))) rfl rfl (by rfl) (by intro x hx; have f0 := hx.load 0 0 rfl rfl; go_simp; (first | done | exact rfl)) ?_
  simp only [List.set_cons_succ, List.set_cons_zero]
  refine lin_val (i := 2) (v := .pointer (some ⟨w.heap.size, 1, none⟩)) rfl rfl (by rfl) (by intro x hx; go_simp; (first | done | exact rfl)) ?_
  simp only [List.set_cons_succ, List.set_cons_zero]
  refine lin_val (i := 3) (v := .int .u64 (tn (x0.hi))) rfl rfl (by rfl) (by intro x hx; have f0 := hx.load 0 1 rfl rfl; go_simp; (first | done | exact rfl)) ?_
  simp only [List.set_cons_succ, List.set_cons_zero]
  refine lin_val (i := 4) (v := .agg #[.int .u64 (tn (x0.lo)), .int .u64 (tn (x0.hi))]) rfl rfl (by rfl) (by intro x hx; go_simp; (first | done | exact rfl)) ?_
  simp only [List.set_cons_succ, List.set_cons_zero]
  refine lin_store (i := 5) (St w [⟨w.heap.size, [some (.int .u64 (tn (x0.lo))), some (.int .u64 (tn (x0.hi)))], 24⟩, ⟨w.heap.size + 1, [some (.int .u64 (tn (x0.lo))), some (.int .u64 (tn (x0.hi)))], 71⟩]) rfl rfl (by rfl) (fun x => ((x.setCell ⟨w.heap.size + 1, 0, none⟩ (.int .u64 (tn (x0.lo)))).setCell ⟨w.heap.size + 1, 1, none⟩ (.int .u64 (tn (x0.hi))))) (by intro x hx; obtain ⟨u0, z0⟩ := hx.has 1 0 rfl (by simp); have q0 := hx.soft 1 0 rfl; obtain ⟨u1, z1⟩ := hx.has 1 1 rfl (by simp); have q1 := hx.soft 1 1 rfl; go_simp; (first | done | rfl)) (fun x hx => ((hx.put 1 0 (.int .u64 (tn (x0.lo))) rfl).put 1 1 (.int .u64 (tn (x0.hi))) rfl)) ?_
  refine lin_done ?_
  intro W1 hx
  replace HS := hid hx
  clear hx
  go_wp2
  have r0 := HS.out.load 1 0 rfl rfl
  have r1 := HS.out.load 1 1 rfl rfl
  exact bodyPost_ret (v := .agg #[.int .u64 (tn (x0.lo)), .int .u64 (tn (x0.hi))]) (by simp [results, Try.results83, go_sem, r0, r1]) rfl ⟨rfl, HS.out.below⟩
def span_within_uint64 (x0 : P) (x1 : P) : Bool :=
  bif leU x1.lo x0.lo then (leU x0.hi x1.hi) else (false)
set_option maxRecDepth 100000 in
set_option maxHeartbeats 1000000 in
theorem span_within_uint64_any (x0 : P) (x1 : P)  (w : World) :
    Calls Try.prog 86 #[.agg #[.int .u64 (tn (x0.lo)), .int .u64 (tn (x0.hi))], .agg #[.int .u64 (tn (x1.lo)), .int .u64 (tn (x1.hi))]] w fun e w' => e = .returned (.bool (span_within_uint64 x0 x1)) ∧ Below w.heap.size w w' := by
  go_enter Try.func86, Try.ntmps86
  have HS := hid (((st_nil w).alloc (k := w.heap.size) rfl [.int .u64 (tn (x0.lo)), .int .u64 (tn (x0.hi))] 71).alloc (k := w.heap.size + 1) (by simp) [.int .u64 (tn (x1.lo)), .int .u64 (tn (x1.hi))] 71)
  -- region 1
  go_upto_region 1 with fail
  refine lin_begin (St w [⟨w.heap.size, [some (.int .u64 (tn (x0.lo))), some (.int .u64 (tn (x0.hi)))], 71⟩, ⟨w.heap.size + 1, [some (.int .u64 (tn (x1.lo))), some (.int .u64 (tn (x1.hi)))], 71⟩]) rfl HS.out ?_
  refine lin_val (i := 0) (v := .pointer (some ⟨w.heap.size + 1, 0, none⟩)) rfl rfl (by rfl) (by intro x hx; go_simp; (first | done | exact rfl)) ?_
  simp only [List.set_cons_succ, List.set_cons_zero]
  refine lin_val (i := 1) (v := .int .u64 (tn (x1.lo))) rfl rfl (by rfl) (by intro x hx; have f0 := hx.load 1 0 rfl rfl; go_simp; (first | done | exact rfl)) ?_
  simp only [List.set_cons_succ, List.set_cons_zero]
  refine lin_val (i := 2) (v := .pointer (some ⟨w.heap.size, 0, none⟩)) rfl rfl (by rfl) (by intro x hx; go_simp; (first | done | exact rfl)) ?_
  simp only [List.set_cons_succ, List.set_cons_zero]
  refine lin_val (i := 3) (v := .int .u64 (tn (x0.lo))) rfl rfl (by rfl) (by intro x hx; have f0 := hx.load 0 0 rfl rfl; go_simp; (first | done | exact rfl)) ?_
  simp only [List.set_cons_succ, List.set_cons_zero]
  refine lin_val (i := 4) (v := .bool (leU x1.lo x0.lo)) rfl rfl (by rfl) (by intro x hx; go_simp; (first | done | exact leUT x1.lo x0.lo | exact congrArg _ (leUT x1.lo x0.lo) | (rw [leUT x1.lo x0.lo]; done) | (rw [leUT x1.lo x0.lo]; rfl))) ?_
  simp only [List.set_cons_succ, List.set_cons_zero]
  refine lin_val (i := 5) (v := .bool (leU x1.lo x0.lo)) rfl rfl (by rfl) (by intro x hx; go_simp; (first | done | exact rfl)) ?_
  simp only [List.set_cons_succ, List.set_cons_zero]
  cases h1 : (leU x1.lo x0.lo)
  · replace h1 := hid h1
    refine lin_no (i := 6) rfl rfl (by kernel_rfl) ?_
    simp only [List.set_cons_succ, List.set_cons_zero]
    refine lin_no (i := 7) rfl rfl (by kernel_rfl) ?_
    simp only [List.set_cons_succ, List.set_cons_zero]
    refine lin_no (i := 8) rfl rfl (by kernel_rfl) ?_
    simp only [List.set_cons_succ, List.set_cons_zero]
    refine lin_no (i := 9) rfl rfl (by kernel_rfl) ?_
    simp only [List.set_cons_succ, List.set_cons_zero]
    refine lin_no (i := 10) rfl rfl (by kernel_rfl) ?_
    simp only [List.set_cons_succ, List.set_cons_zero]
    refine lin_val (i := 11) (v := .bool false) rfl rfl (by rfl) (by intro x hx; go_simp; (first | done | exact rfl)) ?_
    simp only [List.set_cons_succ, List.set_cons_zero]
    refine lin_val (i := 12) (v := .bool false) rfl rfl (by rfl) (by intro x hx; go_simp; (first | done | exact rfl)) ?_
    simp only [List.set_cons_succ, List.set_cons_zero]
    refine lin_done ?_
    intro W1 hx
    replace HS := hid hx
    clear hx
    go_wp2
    have HF : span_within_uint64 x0 x1 = false := by
      unfold span_within_uint64
      rw [cond_f h1.out]
    exact bodyPost_ret (v := .bool false) (by simp [results, Try.results86, go_sem]) rfl ⟨(by first | (rw [HF]; done) | (rw [HF]; rfl)), HS.out.below⟩
  · replace h1 := hid h1
    refine lin_val (i := 6) (v := .pointer (some ⟨w.heap.size, 1, none⟩)) rfl rfl (by rfl) (by intro x hx; go_simp; (first | done | exact rfl)) ?_
    simp only [List.set_cons_succ, List.set_cons_zero]
    refine lin_val (i := 7) (v := .int .u64 (tn (x0.hi))) rfl rfl (by rfl) (by intro x hx; have f0 := hx.load 0 1 rfl rfl; go_simp; (first | done | exact rfl)) ?_
    simp only [List.set_cons_succ, List.set_cons_zero]
    refine lin_val (i := 8) (v := .pointer (some ⟨w.heap.size + 1, 1, none⟩)) rfl rfl (by rfl) (by intro x hx; go_simp; (first | done | exact rfl)) ?_
    simp only [List.set_cons_succ, List.set_cons_zero]
    refine lin_val (i := 9) (v := .int .u64 (tn (x1.hi))) rfl rfl (by rfl) (by intro x hx; have f0 := hx.load 1 1 rfl rfl; go_simp; (first | done | exact rfl)) ?_
    simp only [List.set_cons_succ, List.set_cons_zero]
    refine lin_val (i := 10) (v := .bool (leU x0.hi x1.hi)) rfl rfl (by rfl) (by intro x hx; go_simp; (first | done | exact leUT x0.hi x1.hi | exact congrArg _ (leUT x0.hi x1.hi) | (rw [leUT x0.hi x1.hi]; done) | (rw [leUT x0.hi x1.hi]; rfl))) ?_
    simp only [List.set_cons_succ, List.set_cons_zero]
    refine lin_val (i := 11) (v := .bool (leU x0.hi x1.hi)) rfl rfl (by rfl) (by intro x hx; go_simp; (first | done | exact rfl)) ?_
    simp only [List.set_cons_succ, List.set_cons_zero]
    refine lin_val (i := 12) (v := .bool (leU x0.hi x1.hi)) rfl rfl (by rfl) (by intro x hx; go_simp; (first | done | exact rfl)) ?_
    simp only [List.set_cons_succ, List.set_cons_zero]
    refine lin_done ?_
    intro W1 hx
    replace HS := hid hx
    clear hx
    go_wp2
    have HF : span_within_uint64 x0 x1 = leU x0.hi x1.hi := by
      unfold span_within_uint64
      rw [cond_t h1.out]
    exact bodyPost_ret (v := .bool (leU x0.hi x1.hi)) (by simp [results, Try.results86, go_sem]) rfl ⟨(by first | (rw [HF]; done) | (rw [HF]; rfl)), HS.out.below⟩
set_option maxRecDepth 100000 in
set_option maxHeartbeats 1000000 in
theorem span_In_any (x0 : P) (x1 : BitVec 64)  (w : World) :
    Calls Try.prog 19 #[.agg #[.int .u64 (tn (x0.lo)), .int .u64 (tn (x0.hi))], .int .u64 (tn (x1))] w fun e w' => e = .returned (.bool ((span_within_uint64 (P.mk x1 x1) x0))) ∧ Below w.heap.size w w' := by
  go_enter Try.func19, Try.ntmps19
  have HS := hid ((st_nil w).alloc (k := w.heap.size) rfl [.int .u64 (tn (x0.lo)), .int .u64 (tn (x0.hi))] 24)
  -- region 1
  go_upto_region 1 with fail
  refine up_begin (St w [⟨w.heap.size, [some (.int .u64 (tn (x0.lo))), some (.int .u64 (tn (x0.hi)))], 24⟩]) 6 rfl (by kernel_rfl) (HS.out.drew) ?_
  refine take_val (i := 0) (v := .int .u64 (tn (x1))) (st_ups _ _) rfl rfl (by kernel_rfl) (fun _ _ _ h => h) (by rfl) (by intro x hx; go_simp; (first | done | exact rfl)) ?_
  simp only [List.set_cons_succ, List.set_cons_zero]
  refine take_call (i := 1) (f := 85) (args := #[.int .u64 (tn (x1))]) (v := .agg #[.int .u64 (tn (x1)), .int .u64 (tn (x1))]) (st_ups _ _) rfl rfl (by kernel_rfl) (fun _ _ _ h => h) (by rfl) (fun x hx => by kernel_rfl) (by intro x hx; exact span_only_uint64_any x1 _) ?_
  simp only [List.set_cons_succ, List.set_cons_zero]
  refine take_val (i := 2) (v := .agg #[.int .u64 (tn (x0.lo)), .int .u64 (tn (x0.hi))]) (st_ups _ _) rfl rfl (by kernel_rfl) (fun _ _ _ h => h) (by rfl) (by intro x hx; have f0 := hx.load 0 0 rfl rfl; have f1 := hx.load 0 1 rfl rfl; go_simp; (first | done | exact rfl)) ?_
  simp only [List.set_cons_succ, List.set_cons_zero]
  refine take_call (i := 3) (f := 83) (args := #[.agg #[.int .u64 (tn (x0.lo)), .int .u64 (tn (x0.hi))]]) (v := .agg #[.int .u64 (tn (x0.lo)), .int .u64 (tn (x0.hi))]) (st_ups _ _) rfl rfl (by kernel_rfl) (fun _ _ _ h => h) (by rfl) (fun x hx => by kernel_rfl) (by intro x hx; exact span_unsigned_any x0 _) ?_
  simp only [List.set_cons_succ, List.set_cons_zero]
  refine take_call (i := 4) (f := 86) (args := #[.agg #[.int .u64 (tn (x1)), .int .u64 (tn (x1))], .agg #[.int .u64 (tn (x0.lo)), .int .u64 (tn (x0.hi))]]) (v := .bool (span_within_uint64 (P.mk x1 x1) x0)) (st_ups _ _) rfl rfl (by kernel_rfl) (fun _ _ _ h => h) (by rfl) (fun x hx => by kernel_rfl) (by intro x hx; exact span_within_uint64_any (P.mk x1 x1) x0 _) ?_
  simp only [List.set_cons_succ, List.set_cons_zero]
  refine take_val (i := 5) (v := .bool (span_within_uint64 (P.mk x1 x1) x0)) (st_ups _ _) rfl rfl (by kernel_rfl) (fun _ _ _ h => h) (by rfl) (by intro x hx; go_simp; (first | done | exact rfl)) ?_
  simp only [List.set_cons_succ, List.set_cons_zero]
  refine take_done (by kernel_rfl) ?_ _
  intro W1 hx
  replace HS := hid hx
  clear hx
  go_wp2
  exact bodyPost_ret (v := .bool (span_within_uint64 (P.mk x1 x1) x0)) (by simp [results, Try.results19, go_sem]) rfl ⟨rfl, HS.out.below⟩
set_option maxRecDepth 100000 in
set_option maxHeartbeats 1000000 in
theorem span_Within_any (x0 : P) (x1 : P)  (w : World) :
    Calls Try.prog 21 #[.agg #[.int .u64 (tn (x0.lo)), .int .u64 (tn (x0.hi))], .agg #[.int .u64 (tn (x1.lo)), .int .u64 (tn (x1.hi))]] w fun e w' => e = .returned (.bool ((span_within_uint64 x0 x1))) ∧ Below w.heap.size w w' := by
  go_enter Try.func21, Try.ntmps21
  have HS := hid (((st_nil w).alloc (k := w.heap.size) rfl [.int .u64 (tn (x0.lo)), .int .u64 (tn (x0.hi))] 24).alloc (k := w.heap.size + 1) (by simp) [.int .u64 (tn (x1.lo)), .int .u64 (tn (x1.hi))] 24)
  -- region 1
  go_upto_region 1 with fail
  refine up_begin (St w [⟨w.heap.size, [some (.int .u64 (tn (x0.lo))), some (.int .u64 (tn (x0.hi)))], 24⟩, ⟨w.heap.size + 1, [some (.int .u64 (tn (x1.lo))), some (.int .u64 (tn (x1.hi)))], 24⟩]) 6 rfl (by kernel_rfl) (HS.out.drew) ?_
  refine take_val (i := 0) (v := .agg #[.int .u64 (tn (x0.lo)), .int .u64 (tn (x0.hi))]) (st_ups _ _) rfl rfl (by kernel_rfl) (fun _ _ _ h => h) (by rfl) (by intro x hx; have f0 := hx.load 0 0 rfl rfl; have f1 := hx.load 0 1 rfl rfl; go_simp; (first | done | exact rfl)) ?_
  simp only [List.set_cons_succ, List.set_cons_zero]
  refine take_call (i := 1) (f := 83) (args := #[.agg #[.int .u64 (tn (x0.lo)), .int .u64 (tn (x0.hi))]]) (v := .agg #[.int .u64 (tn (x0.lo)), .int .u64 (tn (x0.hi))]) (st_ups _ _) rfl rfl (by kernel_rfl) (fun _ _ _ h => h) (by rfl) (fun x hx => by kernel_rfl) (by intro x hx; exact span_unsigned_any x0 _) ?_
  simp only [List.set_cons_succ, List.set_cons_zero]
  refine take_val (i := 2) (v := .agg #[.int .u64 (tn (x1.lo)), .int .u64 (tn (x1.hi))]) (st_ups _ _) rfl rfl (by kernel_rfl) (fun _ _ _ h => h) (by rfl) (by intro x hx; have f0 := hx.load 1 0 rfl rfl; have f1 := hx.load 1 1 rfl rfl; go_simp; (first | done | exact rfl)) ?_
  simp only [List.set_cons_succ, List.set_cons_zero]
  refine take_call (i := 3) (f := 83) (args := #[.agg #[.int .u64 (tn (x1.lo)), .int .u64 (tn (x1.hi))]]) (v := .agg #[.int .u64 (tn (x1.lo)), .int .u64 (tn (x1.hi))]) (st_ups _ _) rfl rfl (by kernel_rfl) (fun _ _ _ h => h) (by rfl) (fun x hx => by kernel_rfl) (by intro x hx; exact span_unsigned_any x1 _) ?_
  simp only [List.set_cons_succ, List.set_cons_zero]
  refine take_call (i := 4) (f := 86) (args := #[.agg #[.int .u64 (tn (x0.lo)), .int .u64 (tn (x0.hi))], .agg #[.int .u64 (tn (x1.lo)), .int .u64 (tn (x1.hi))]]) (v := .bool (span_within_uint64 x0 x1)) (st_ups _ _) rfl rfl (by kernel_rfl) (fun _ _ _ h => h) (by rfl) (fun x hx => by kernel_rfl) (by intro x hx; exact span_within_uint64_any x0 x1 _) ?_
  simp only [List.set_cons_succ, List.set_cons_zero]
  refine take_val (i := 5) (v := .bool (span_within_uint64 x0 x1)) (st_ups _ _) rfl rfl (by kernel_rfl) (fun _ _ _ h => h) (by rfl) (by intro x hx; go_simp; (first | done | exact rfl)) ?_
  simp only [List.set_cons_succ, List.set_cons_zero]
  refine take_done (by kernel_rfl) ?_ _
  intro W1 hx
  replace HS := hid hx
  clear hx
  go_wp2
  exact bodyPost_ret (v := .bool (span_within_uint64 x0 x1)) (by simp [results, Try.results21, go_sem]) rfl ⟨rfl, HS.out.below⟩
set_option maxRecDepth 100000 in
set_option maxHeartbeats 1000000 in
theorem span_join_uint64_any (x0 : P) (x1 : P)  (w : World) :
    Calls Try.prog 87 #[.agg #[.int .u64 (tn (x0.lo)), .int .u64 (tn (x0.hi))], .agg #[.int .u64 (tn (x1.lo)), .int .u64 (tn (x1.hi))]] w fun e w' => e = .returned (.agg #[.int .u64 (tn (minU x0.lo x1.lo)), .int .u64 (tn (maxU x0.hi x1.hi))]) ∧ Below w.heap.size w w' := by
  go_enter Try.func87, Try.ntmps87
  have HS := hid ((((st_nil w).alloc (k := w.heap.size) rfl [.int .u64 (tn (x0.lo)), .int .u64 (tn (x0.hi))] 71).alloc (k := w.heap.size + 1) (by simp) [.int .u64 (tn (x1.lo)), .int .u64 (tn (x1.hi))] 71).alloc (k := w.heap.size + 2) (by simp) [.int .u64 0, .int .u64 0] 71)
  -- region 1
  go_upto_region 1 with fail
  refine lin_begin (St w [⟨w.heap.size, [some (.int .u64 (tn (x0.lo))), some (.int .u64 (tn (x0.hi)))], 71⟩, ⟨w.heap.size + 1, [some (.int .u64 (tn (x1.lo))), some (.int .u64 (tn (x1.hi)))], 71⟩, ⟨w.heap.size + 2, [some (.int .u64 0), some (.int .u64 0)], 71⟩]) rfl HS.out ?_
  refine lin_val (i := 0) (v := .pointer (some ⟨w.heap.size, 0, none⟩)) rfl rfl (by rfl) (by intro x hx; go_simp; (first | done | exact rfl)) ?_
  simp only [List.set_cons_succ, List.set_cons_zero]
  refine lin_val (i := 1) (v := .int .u64 (tn (x0.lo))) rfl rfl (by rfl) (by intro x hx; have f0 := hx.load 0 0 rfl rfl; go_simp; (first | done | exact rfl)) ?_
  simp only [List.set_cons_succ, List.set_cons_zero]
  refine lin_val (i := 2) (v := .pointer (some ⟨w.heap.size + 1, 0, none⟩)) rfl rfl (by rfl) (by intro x hx; go_simp; (first | done | exact rfl)) ?_
  simp only [List.set_cons_succ, List.set_cons_zero]
  refine lin_val (i := 3) (v := .int .u64 (tn (x1.lo))) rfl rfl (by rfl) (by intro x hx; have f0 := hx.load 1 0 rfl rfl; go_simp; (first | done | exact rfl)) ?_
  simp only [List.set_cons_succ, List.set_cons_zero]
  refine lin_val (i := 4) (v := .int .u64 (tn (minU x0.lo x1.lo))) rfl rfl (by rfl) (by intro x hx; go_simp; (first | done | exact minUT x0.lo x1.lo)) ?_
  simp only [List.set_cons_succ, List.set_cons_zero]
  refine lin_val (i := 5) (v := .pointer (some ⟨w.heap.size, 1, none⟩)) rfl rfl (by rfl) (by intro x hx; go_simp; (first | done | exact rfl)) ?_
  simp only [List.set_cons_succ, List.set_cons_zero]
  refine lin_val (i := 6) (v := .int .u64 (tn (x0.hi))) rfl rfl (by rfl) (by intro x hx; have f0 := hx.load 0 1 rfl rfl; go_simp; (first | done | exact rfl)) ?_
  simp only [List.set_cons_succ, List.set_cons_zero]
  refine lin_val (i := 7) (v := .pointer (some ⟨w.heap.size + 1, 1, none⟩)) rfl rfl (by rfl) (by intro x hx; go_simp; (first | done | exact rfl)) ?_
  simp only [List.set_cons_succ, List.set_cons_zero]
  refine lin_val (i := 8) (v := .int .u64 (tn (x1.hi))) rfl rfl (by rfl) (by intro x hx; have f0 := hx.load 1 1 rfl rfl; go_simp; (first | done | exact rfl)) ?_
  simp only [List.set_cons_succ, List.set_cons_zero]
  refine lin_val (i := 9) (v := .int .u64 (tn (maxU x0.hi x1.hi))) rfl rfl (by rfl) (by intro x hx; go_simp; (first | done | exact maxUT x0.hi x1.hi)) ?_
  simp only [List.set_cons_succ, List.set_cons_zero]
  refine lin_val (i := 10) (v := .agg #[.int .u64 (tn (minU x0.lo x1.lo)), .int .u64 (tn (maxU x0.hi x1.hi))]) rfl rfl (by rfl) (by intro x hx; go_simp; (first | done | exact rfl)) ?_
  simp only [List.set_cons_succ, List.set_cons_zero]
  refine lin_store (i := 11) (St w [⟨w.heap.size, [some (.int .u64 (tn (x0.lo))), some (.int .u64 (tn (x0.hi)))], 71⟩, ⟨w.heap.size + 1, [some (.int .u64 (tn (x1.lo))), some (.int .u64 (tn (x1.hi)))], 71⟩, ⟨w.heap.size + 2, [some (.int .u64 (tn (minU x0.lo x1.lo))), some (.int .u64 (tn (maxU x0.hi x1.hi)))], 71⟩]) rfl rfl (by rfl) (fun x => ((x.setCell ⟨w.heap.size + 2, 0, none⟩ (.int .u64 (tn (minU x0.lo x1.lo)))).setCell ⟨w.heap.size + 2, 1, none⟩ (.int .u64 (tn (maxU x0.hi x1.hi))))) (by intro x hx; obtain ⟨u0, z0⟩ := hx.has 2 0 rfl (by simp); have q0 := hx.soft 2 0 rfl; obtain ⟨u1, z1⟩ := hx.has 2 1 rfl (by simp); have q1 := hx.soft 2 1 rfl; go_simp; (first | done | rfl)) (fun x hx => ((hx.put 2 0 (.int .u64 (tn (minU x0.lo x1.lo))) rfl).put 2 1 (.int .u64 (tn (maxU x0.hi x1.hi))) rfl)) ?_
  refine lin_done ?_
  intro W1 hx
  replace HS := hid hx
  clear hx
  go_wp2
  have r0 := HS.out.load 2 0 rfl rfl
  have r1 := HS.out.load 2 1 rfl rfl
  exact bodyPost_ret (v := .agg #[.int .u64 (tn (minU x0.lo x1.lo)), .int .u64 (tn (maxU x0.hi x1.hi))]) (by simp [results, Try.results87, go_sem, r0, r1]) rfl ⟨rfl, HS.out.below⟩
set_option maxRecDepth 100000 in
set_option maxHeartbeats 1000000 in
theorem span_Join_any (x0 : P) (x1 : P)  (w : World) :
    Calls Try.prog 23 #[.agg #[.int .u64 (tn (x0.lo)), .int .u64 (tn (x0.hi))], .agg #[.int .u64 (tn (x1.lo)), .int .u64 (tn (x1.hi))]] w fun e w' => e = .returned (.agg #[.int .u64 (tn (minU x0.lo x1.lo)), .int .u64 (tn (maxU x0.hi x1.hi))]) ∧ Below w.heap.size w w' := by
  go_enter Try.func23, Try.ntmps23
  have HS := hid ((((st_nil w).alloc (k := w.heap.size) rfl [.int .u64 (tn (x0.lo)), .int .u64 (tn (x0.hi))] 24).alloc (k := w.heap.size + 1) (by simp) [.int .u64 (tn (x1.lo)), .int .u64 (tn (x1.hi))] 24).alloc (k := w.heap.size + 2) (by simp) [.int .u64 0, .int .u64 0] 24)
  -- region 1
  go_upto_region 1 with fail
  refine up_begin (St w [⟨w.heap.size, [some (.int .u64 (tn (x0.lo))), some (.int .u64 (tn (x0.hi)))], 24⟩, ⟨w.heap.size + 1, [some (.int .u64 (tn (x1.lo))), some (.int .u64 (tn (x1.hi)))], 24⟩, ⟨w.heap.size + 2, [none, none], 24⟩]) 7 rfl (by kernel_rfl) (St.less HS.out.drew (less_cons rfl rfl (lessC_eq (lessC_eq (trivial))) (less_cons rfl rfl (lessC_eq (lessC_eq (trivial))) (less_cons rfl rfl (lessC_no (lessC_no (trivial))) (trivial))))) ?_
  refine take_val (i := 0) (v := .agg #[.int .u64 (tn (x0.lo)), .int .u64 (tn (x0.hi))]) (st_ups _ _) rfl rfl (by kernel_rfl) (fun _ _ _ h => h) (by rfl) (by intro x hx; have f0 := hx.load 0 0 rfl rfl; have f1 := hx.load 0 1 rfl rfl; go_simp; (first | done | exact rfl)) ?_
  simp only [List.set_cons_succ, List.set_cons_zero]
  refine take_call (i := 1) (f := 83) (args := #[.agg #[.int .u64 (tn (x0.lo)), .int .u64 (tn (x0.hi))]]) (v := .agg #[.int .u64 (tn (x0.lo)), .int .u64 (tn (x0.hi))]) (st_ups _ _) rfl rfl (by kernel_rfl) (fun _ _ _ h => h) (by rfl) (fun x hx => by kernel_rfl) (by intro x hx; exact span_unsigned_any x0 _) ?_
  simp only [List.set_cons_succ, List.set_cons_zero]
  refine take_val (i := 2) (v := .agg #[.int .u64 (tn (x1.lo)), .int .u64 (tn (x1.hi))]) (st_ups _ _) rfl rfl (by kernel_rfl) (fun _ _ _ h => h) (by rfl) (by intro x hx; have f0 := hx.load 1 0 rfl rfl; have f1 := hx.load 1 1 rfl rfl; go_simp; (first | done | exact rfl)) ?_
  simp only [List.set_cons_succ, List.set_cons_zero]
  refine take_call (i := 3) (f := 83) (args := #[.agg #[.int .u64 (tn (x1.lo)), .int .u64 (tn (x1.hi))]]) (v := .agg #[.int .u64 (tn (x1.lo)), .int .u64 (tn (x1.hi))]) (st_ups _ _) rfl rfl (by kernel_rfl) (fun _ _ _ h => h) (by rfl) (fun x hx => by kernel_rfl) (by intro x hx; exact span_unsigned_any x1 _) ?_
  simp only [List.set_cons_succ, List.set_cons_zero]
  refine take_call (i := 4) (f := 87) (args := #[.agg #[.int .u64 (tn (x0.lo)), .int .u64 (tn (x0.hi))], .agg #[.int .u64 (tn (x1.lo)), .int .u64 (tn (x1.hi))]]) (v := .agg #[.int .u64 (tn (minU x0.lo x1.lo)), .int .u64 (tn (maxU x0.hi x1.hi))]) (st_ups _ _) rfl rfl (by kernel_rfl) (fun _ _ _ h => h) (by rfl) (fun x hx => by kernel_rfl) (by intro x hx; exact span_join_uint64_any x0 x1 _) ?_
  simp only [List.set_cons_succ, List.set_cons_zero]
  refine take_call (i := 5) (f := 84) (args := #[.agg #[.int .u64 (tn (minU x0.lo x1.lo)), .int .u64 (tn (maxU x0.hi x1.hi))]]) (v := .agg #[.int .u64 (tn (minU x0.lo x1.lo)), .int .u64 (tn (maxU x0.hi x1.hi))]) (st_ups _ _) rfl rfl (by kernel_rfl) (fun _ _ _ h => h) (by rfl) (fun x hx => by kernel_rfl) (by intro x hx; exact span_toUnsigned_any (P.mk (minU x0.lo x1.lo) (maxU x0.hi x1.hi)) _) ?_
  simp only [List.set_cons_succ, List.set_cons_zero]
  refine take_one (i := 6) (by kernel_rfl) (step_store (St w [⟨w.heap.size, [some (.int .u64 (tn (x0.lo))), some (.int .u64 (tn (x0.hi)))], 24⟩, ⟨w.heap.size + 1, [some (.int .u64 (tn (x1.lo))), some (.int .u64 (tn (x1.hi)))], 24⟩, ⟨w.heap.size + 2, [some (.int .u64 (tn (minU x0.lo x1.lo))), some (.int .u64 (tn (maxU x0.hi x1.hi)))], 24⟩]) (st_ups _ _) (fun x h => h.less (less_cons rfl rfl (lessC_eq (lessC_eq (trivial))) (less_cons rfl rfl (lessC_eq (lessC_eq (trivial))) (less_cons rfl rfl (lessC_no (lessC_no (trivial))) (trivial))))) rfl rfl (by rfl) (fun x => ((x.setCell ⟨w.heap.size + 2, 0, none⟩ (.int .u64 (tn (minU x0.lo x1.lo)))).setCell ⟨w.heap.size + 2, 1, none⟩ (.int .u64 (tn (maxU x0.hi x1.hi))))) (by intro x hx; obtain ⟨u0, z0⟩ := hx.has 2 0 rfl (by simp); have q0 := hx.soft 2 0 rfl; obtain ⟨u1, z1⟩ := hx.has 2 1 rfl (by simp); have q1 := hx.soft 2 1 rfl; go_simp; (first | done | rfl)) (fun x hx => ((hx.put 2 0 (.int .u64 (tn (minU x0.lo x1.lo))) rfl).put 2 1 (.int .u64 (tn (maxU x0.hi x1.hi))) rfl)) ?_)
  refine take_done (by kernel_rfl) ?_ _
  intro W1 hx
  replace HS := hid hx
  clear hx
  go_wp2
  have r0 := HS.out.load 2 0 rfl rfl
  have r1 := HS.out.load 2 1 rfl rfl
  exact bodyPost_ret (v := .agg #[.int .u64 (tn (minU x0.lo x1.lo)), .int .u64 (tn (maxU x0.hi x1.hi))]) (by simp [results, Try.results23, go_sem, r0, r1]) rfl ⟨rfl, HS.out.below⟩
def span_meet_uint64 (x0 : P) (x1 : P) : P × Bool :=
  bif gtU (maxU x0.lo x1.lo) (minU x0.hi x1.hi) then ((P.mk 0#64 0#64, false)) else ((P.mk (maxU x0.lo x1.lo) (minU x0.hi x1.hi), true))
set_option maxRecDepth 100000 in
set_option maxHeartbeats 1000000 in
theorem span_meet_uint64_any (x0 : P) (x1 : P)  (w : World) :
    Calls Try.prog 82 #[.agg #[.int .u64 (tn (x0.lo)), .int .u64 (tn (x0.hi))], .agg #[.int .u64 (tn (x1.lo)), .int .u64 (tn (x1.hi))]] w fun e w' => e = .returned (.tuple #[.agg #[.int .u64 (tn (((span_meet_uint64 x0 x1).1).lo)), .int .u64 (tn (((span_meet_uint64 x0 x1).1).hi))], .bool ((span_meet_uint64 x0 x1).2)]) ∧ Below w.heap.size w w' := by
  go_enter Try.func82, Try.ntmps82
  have HS := hid ((((st_nil w).alloc (k := w.heap.size) rfl [.int .u64 (tn (x0.lo)), .int .u64 (tn (x0.hi))] 71).alloc (k := w.heap.size + 1) (by simp) [.int .u64 (tn (x1.lo)), .int .u64 (tn (x1.hi))] 71).alloc (k := w.heap.size + 2) (by simp) [.int .u64 0, .int .u64 0] 71)
  -- region 1
  go_upto_region 1 with fail
  refine lin_begin (St w [⟨w.heap.size, [some (.int .u64 (tn (x0.lo))), some (.int .u64 (tn (x0.hi)))], 71⟩, ⟨w.heap.size + 1, [some (.int .u64 (tn (x1.lo))), some (.int .u64 (tn (x1.hi)))], 71⟩, ⟨w.heap.size + 2, [some (.int .u64 0), some (.int .u64 0)], 71⟩]) rfl HS.out ?_
  refine lin_val (i := 0) (v := .pointer (some ⟨w.heap.size, 0, none⟩)) rfl rfl (by rfl) (by intro x hx; go_simp; (first | done | exact rfl)) ?_
  simp only [List.set_cons_succ, List.set_cons_zero]
  refine lin_val (i := 1) (v := .int .u64 (tn (x0.lo))) rfl rfl (by rfl) (by intro x hx; have f0 := hx.load 0 0 rfl rfl; go_simp; (first | done | exact rfl)) ?_
  simp only [List.set_cons_succ, List.set_cons_zero]
  refine lin_val (i := 2) (v := .pointer (some ⟨w.heap.size + 1, 0, none⟩)) rfl rfl (by rfl) (by intro x hx; go_simp; (first | done | exact rfl)) ?_
  simp only [List.set_cons_succ, List.set_cons_zero]
  refine lin_val (i := 3) (v := .int .u64 (tn (x1.lo))) rfl rfl (by rfl) (by intro x hx; have f0 := hx.load 1 0 rfl rfl; go_simp; (first | done | exact rfl)) ?_
  simp only [List.set_cons_succ, List.set_cons_zero]
  refine lin_val (i := 4) (v := .int .u64 (tn (maxU x0.lo x1.lo))) rfl rfl (by rfl) (by intro x hx; go_simp; (first | done | exact maxUT x0.lo x1.lo)) ?_
  simp only [List.set_cons_succ, List.set_cons_zero]
  refine lin_val (i := 5) (v := .pointer (some ⟨w.heap.size, 1, none⟩)) rfl rfl (by rfl) (by intro x hx; go_simp; (first | done | exact rfl)) ?_
  simp only [List.set_cons_succ, List.set_cons_zero]
  refine lin_val (i := 6) (v := .int .u64 (tn (x0.hi))) rfl rfl (by rfl) (by intro x hx; have f0 := hx.load 0 1 rfl rfl; go_simp; (first | done | exact rfl)) ?_
  simp only [List.set_cons_succ, List.set_cons_zero]
  refine lin_val (i := 7) (v := .pointer (some ⟨w.heap.size + 1, 1, none⟩)) rfl rfl (by rfl) (by intro x hx; go_simp; (first | done | exact rfl)) ?_
  simp only [List.set_cons_succ, List.set_cons_zero]
  refine lin_val (i := 8) (v := .int .u64 (tn (x1.hi))) rfl rfl (by rfl) (by intro x hx; have f0 := hx.load 1 1 rfl rfl; go_simp; (first | done | exact rfl)) ?_
  simp only [List.set_cons_succ, List.set_cons_zero]
  refine lin_val (i := 9) (v := .int .u64 (tn (minU x0.hi x1.hi))) rfl rfl (by rfl) (by intro x hx; go_simp; (first | done | exact minUT x0.hi x1.hi)) ?_
  simp only [List.set_cons_succ, List.set_cons_zero]
  refine lin_val (i := 10) (v := .agg #[.int .u64 (tn (maxU x0.lo x1.lo)), .int .u64 (tn (minU x0.hi x1.hi))]) rfl rfl (by rfl) (by intro x hx; go_simp; (first | done | exact rfl)) ?_
  simp only [List.set_cons_succ, List.set_cons_zero]
  refine lin_new (i := 11) rfl rfl (by rfl) [.int .u64 0, .int .u64 0] 71 (fun k => .pointer (some ⟨k, 0, none⟩)) [some (.int .u64 0), some (.int .u64 0)] (lessC_eq (lessC_eq (trivial))) (by intro x hx; go_simp; (first | done | exact rfl)) (fun k1 => ?_)
  simp only [List.set_cons_succ, List.set_cons_zero]
  refine lin_store (i := 12) (St w [⟨w.heap.size, [some (.int .u64 (tn (x0.lo))), some (.int .u64 (tn (x0.hi)))], 71⟩, ⟨w.heap.size + 1, [some (.int .u64 (tn (x1.lo))), some (.int .u64 (tn (x1.hi)))], 71⟩, ⟨w.heap.size + 2, [some (.int .u64 0), some (.int .u64 0)], 71⟩, ⟨k1, [some (.int .u64 (tn (maxU x0.lo x1.lo))), some (.int .u64 (tn (minU x0.hi x1.hi)))], 71⟩]) rfl rfl (by rfl) (fun x => ((x.setCell ⟨k1, 0, none⟩ (.int .u64 (tn (maxU x0.lo x1.lo)))).setCell ⟨k1, 1, none⟩ (.int .u64 (tn (minU x0.hi x1.hi))))) (by intro x hx; obtain ⟨u0, z0⟩ := hx.has 3 0 rfl (by simp); have q0 := hx.soft 3 0 rfl; obtain ⟨u1, z1⟩ := hx.has 3 1 rfl (by simp); have q1 := hx.soft 3 1 rfl; go_simp; (first | done | rfl)) (fun x hx => ((hx.put 3 0 (.int .u64 (tn (maxU x0.lo x1.lo))) rfl).put 3 1 (.int .u64 (tn (minU x0.hi x1.hi))) rfl)) ?_
  refine lin_done ?_
  intro W1 hx
  replace HS := hid hx
  clear hx
  -- region 2
  go_upto_region 2 with fail
  refine lin_begin (St w [⟨w.heap.size, [some (.int .u64 (tn (x0.lo))), some (.int .u64 (tn (x0.hi)))], 71⟩, ⟨w.heap.size + 1, [some (.int .u64 (tn (x1.lo))), some (.int .u64 (tn (x1.hi)))], 71⟩, ⟨w.heap.size + 2, [some (.int .u64 0), some (.int .u64 0)], 71⟩, ⟨k1, [some (.int .u64 (tn (maxU x0.lo x1.lo))), some (.int .u64 (tn (minU x0.hi x1.hi)))], 71⟩]) rfl HS.out ?_
  refine lin_val (i := 0) (v := .pointer (some ⟨k1, 0, none⟩)) rfl rfl (by rfl) (by intro x hx; go_simp; (first | done | exact rfl)) ?_
  simp only [List.set_cons_succ, List.set_cons_zero]
  refine lin_val (i := 1) (v := .int .u64 (tn (maxU x0.lo x1.lo))) rfl rfl (by rfl) (by intro x hx; have f0 := hx.load 3 0 rfl rfl; go_simp; (first | done | exact rfl)) ?_
  simp only [List.set_cons_succ, List.set_cons_zero]
  refine lin_val (i := 2) (v := .pointer (some ⟨k1, 1, none⟩)) rfl rfl (by rfl) (by intro x hx; go_simp; (first | done | exact rfl)) ?_
  simp only [List.set_cons_succ, List.set_cons_zero]
  refine lin_val (i := 3) (v := .int .u64 (tn (minU x0.hi x1.hi))) rfl rfl (by rfl) (by intro x hx; have f0 := hx.load 3 1 rfl rfl; go_simp; (first | done | exact rfl)) ?_
  simp only [List.set_cons_succ, List.set_cons_zero]
  refine lin_val (i := 4) (v := .bool (gtU (maxU x0.lo x1.lo) (minU x0.hi x1.hi))) rfl rfl (by rfl) (by intro x hx; go_simp; (first | done | exact gtUT (maxU x0.lo x1.lo) (minU x0.hi x1.hi) | exact congrArg _ (gtUT (maxU x0.lo x1.lo) (minU x0.hi x1.hi)) | (rw [gtUT (maxU x0.lo x1.lo) (minU x0.hi x1.hi)]; done) | (rw [gtUT (maxU x0.lo x1.lo) (minU x0.hi x1.hi)]; rfl))) ?_
  simp only [List.set_cons_succ, List.set_cons_zero]
  refine lin_done ?_
  intro W2 hx
  replace HS := hid hx
  clear hx
  cases h1 : (gtU (maxU x0.lo x1.lo) (minU x0.hi x1.hi))
  · replace h1 := hid h1
    -- region 4
    go_upto_region 4 with fail
    refine lin_begin (St w [⟨w.heap.size, [some (.int .u64 (tn (x0.lo))), some (.int .u64 (tn (x0.hi)))], 71⟩, ⟨w.heap.size + 1, [some (.int .u64 (tn (x1.lo))), some (.int .u64 (tn (x1.hi)))], 71⟩, ⟨w.heap.size + 2, [some (.int .u64 0), some (.int .u64 0)], 71⟩, ⟨k1, [some (.int .u64 (tn (maxU x0.lo x1.lo))), some (.int .u64 (tn (minU x0.hi x1.hi)))], 71⟩]) rfl HS.out ?_
    refine lin_val (i := 0) (v := .agg #[.int .u64 (tn (maxU x0.lo x1.lo)), .int .u64 (tn (minU x0.hi x1.hi))]) rfl rfl (by rfl) (by intro x hx; have f0 := hx.load 3 0 rfl rfl; have f1 := hx.load 3 1 rfl rfl; go_simp; (first | done | exact rfl)) ?_
    simp only [List.set_cons_succ, List.set_cons_zero]
    refine lin_store (i := 1) (St w [⟨w.heap.size, [some (.int .u64 (tn (x0.lo))), some (.int .u64 (tn (x0.hi)))], 71⟩, ⟨w.heap.size + 1, [some (.int .u64 (tn (x1.lo))), some (.int .u64 (tn (x1.hi)))], 71⟩, ⟨w.heap.size + 2, [some (.int .u64 (tn (maxU x0.lo x1.lo))), some (.int .u64 (tn (minU x0.hi x1.hi)))], 71⟩, ⟨k1, [some (.int .u64 (tn (maxU x0.lo x1.lo))), some (.int .u64 (tn (minU x0.hi x1.hi)))], 71⟩]) rfl rfl (by rfl) (fun x => ((x.setCell ⟨w.heap.size + 2, 0, none⟩ (.int .u64 (tn (maxU x0.lo x1.lo)))).setCell ⟨w.heap.size + 2, 1, none⟩ (.int .u64 (tn (minU x0.hi x1.hi))))) (by intro x hx; obtain ⟨u0, z0⟩ := hx.has 2 0 rfl (by simp); have q0 := hx.soft 2 0 rfl; obtain ⟨u1, z1⟩ := hx.has 2 1 rfl (by simp); have q1 := hx.soft 2 1 rfl; go_simp; (first | done | rfl)) (fun x hx => ((hx.put 2 0 (.int .u64 (tn (maxU x0.lo x1.lo))) rfl).put 2 1 (.int .u64 (tn (minU x0.hi x1.hi))) rfl)) ?_
    refine lin_val (i := 2) (v := .bool true) rfl rfl (by rfl) (by intro x hx; go_simp; (first | done | exact rfl)) ?_
    simp only [List.set_cons_succ, List.set_cons_zero]
    refine lin_done ?_
    intro W3 hx
    replace HS := hid hx
    clear hx
    go_wp2
    have r0 := HS.out.load 2 0 rfl rfl
    have r1 := HS.out.load 2 1 rfl rfl
    have HF : span_meet_uint64 x0 x1 = (P.mk (maxU x0.lo x1.lo) (minU x0.hi x1.hi), true) := by
      unfold span_meet_uint64
      rw [cond_f h1.out]
    exact bodyPost_ret (v := .tuple #[.agg #[.int .u64 (tn (maxU x0.lo x1.lo)), .int .u64 (tn (minU x0.hi x1.hi))], .bool true]) (by simp [results, Try.results82, go_sem, r0, r1]) rfl ⟨(by first | (rw [HF]; done) | (rw [HF]; rfl)), HS.out.below⟩
  · replace h1 := hid h1
    -- region 3
    go_upto_region 3 with fail
    refine lin_begin (St w [⟨w.heap.size, [some (.int .u64 (tn (x0.lo))), some (.int .u64 (tn (x0.hi)))], 71⟩, ⟨w.heap.size + 1, [some (.int .u64 (tn (x1.lo))), some (.int .u64 (tn (x1.hi)))], 71⟩, ⟨w.heap.size + 2, [some (.int .u64 0), some (.int .u64 0)], 71⟩, ⟨k1, [some (.int .u64 (tn (maxU x0.lo x1.lo))), some (.int .u64 (tn (minU x0.hi x1.hi)))], 71⟩]) rfl HS.out ?_
    refine lin_val (i := 0) (v := .agg #[.int .u64 0, .int .u64 0]) rfl rfl (by rfl) (by intro x hx; go_simp; (first | done | exact rfl)) ?_
    simp only [List.set_cons_succ, List.set_cons_zero]
    refine lin_store (i := 1) (St w [⟨w.heap.size, [some (.int .u64 (tn (x0.lo))), some (.int .u64 (tn (x0.hi)))], 71⟩, ⟨w.heap.size + 1, [some (.int .u64 (tn (x1.lo))), some (.int .u64 (tn (x1.hi)))], 71⟩, ⟨w.heap.size + 2, [some (.int .u64 0), some (.int .u64 0)], 71⟩, ⟨k1, [some (.int .u64 (tn (maxU x0.lo x1.lo))), some (.int .u64 (tn (minU x0.hi x1.hi)))], 71⟩]) rfl rfl (by rfl) (fun x => ((x.setCell ⟨w.heap.size + 2, 0, none⟩ (.int .u64 0)).setCell ⟨w.heap.size + 2, 1, none⟩ (.int .u64 0))) (by intro x hx; obtain ⟨u0, z0⟩ := hx.has 2 0 rfl (by simp); have q0 := hx.soft 2 0 rfl; obtain ⟨u1, z1⟩ := hx.has 2 1 rfl (by simp); have q1 := hx.soft 2 1 rfl; go_simp; (first | done | rfl)) (fun x hx => ((hx.put 2 0 (.int .u64 0) rfl).put 2 1 (.int .u64 0) rfl)) ?_
    refine lin_val (i := 2) (v := .bool false) rfl rfl (by rfl) (by intro x hx; go_simp; (first | done | exact rfl)) ?_
    simp only [List.set_cons_succ, List.set_cons_zero]
    refine lin_done ?_
    intro W3 hx
    replace HS := hid hx
    clear hx
    go_wp2
    have r0 := HS.out.load 2 0 rfl rfl
    have r1 := HS.out.load 2 1 rfl rfl
    have HF : span_meet_uint64 x0 x1 = (P.mk 0#64 0#64, false) := by
      unfold span_meet_uint64
      rw [cond_t h1.out]
    exact bodyPost_ret (v := .tuple #[.agg #[.int .u64 0, .int .u64 0], .bool false]) (by simp [results, Try.results82, go_sem, r0, r1]) rfl ⟨(by first | (rw [HF]; done) | (rw [HF]; rfl)), HS.out.below⟩
set_option maxRecDepth 100000 in
set_option maxHeartbeats 1000000 in
theorem span_Meet_any (x0 : P) (x1 : P)  (w : World) :
    Calls Try.prog 13 #[.agg #[.int .u64 (tn (x0.lo)), .int .u64 (tn (x0.hi))], .agg #[.int .u64 (tn (x1.lo)), .int .u64 (tn (x1.hi))]] w fun e w' => e = .returned (.tuple #[.agg #[.int .u64 (tn (((span_meet_uint64 x0 x1).1).lo)), .int .u64 (tn (((span_meet_uint64 x0 x1).1).hi))], .bool ((span_meet_uint64 x0 x1).2)]) ∧ Below w.heap.size w w' := by
  go_enter Try.func13, Try.ntmps13
  have HS := hid ((((st_nil w).alloc (k := w.heap.size) rfl [.int .u64 (tn (x0.lo)), .int .u64 (tn (x0.hi))] 24).alloc (k := w.heap.size + 1) (by simp) [.int .u64 (tn (x1.lo)), .int .u64 (tn (x1.hi))] 24).alloc (k := w.heap.size + 2) (by simp) [.int .u64 0, .int .u64 0] 24)
  -- region 1
  go_upto_region 1 with fail
  refine up_begin (St w [⟨w.heap.size, [some (.int .u64 (tn (x0.lo))), some (.int .u64 (tn (x0.hi)))], 24⟩, ⟨w.heap.size + 1, [some (.int .u64 (tn (x1.lo))), some (.int .u64 (tn (x1.hi)))], 24⟩, ⟨w.heap.size + 2, [some (.int .u64 0), some (.int .u64 0)], 24⟩]) 11 rfl (by kernel_rfl) (HS.out.drew) ?_
  refine take_val (i := 0) (v := .agg #[.int .u64 (tn (x0.lo)), .int .u64 (tn (x0.hi))]) (st_ups _ _) rfl rfl (by kernel_rfl) (fun _ _ _ h => h) (by rfl) (by intro x hx; have f0 := hx.load 0 0 rfl rfl; have f1 := hx.load 0 1 rfl rfl; go_simp; (first | done | exact rfl)) ?_
  simp only [List.set_cons_succ, List.set_cons_zero]
  refine take_call (i := 1) (f := 83) (args := #[.agg #[.int .u64 (tn (x0.lo)), .int .u64 (tn (x0.hi))]]) (v := .agg #[.int .u64 (tn (x0.lo)), .int .u64 (tn (x0.hi))]) (st_ups _ _) rfl rfl (by kernel_rfl) (fun _ _ _ h => h) (by rfl) (fun x hx => by kernel_rfl) (by intro x hx; exact span_unsigned_any x0 _) ?_
  simp only [List.set_cons_succ, List.set_cons_zero]
  refine take_val (i := 2) (v := .agg #[.int .u64 (tn (x1.lo)), .int .u64 (tn (x1.hi))]) (st_ups _ _) rfl rfl (by kernel_rfl) (fun _ _ _ h => h) (by rfl) (by intro x hx; have f0 := hx.load 1 0 rfl rfl; have f1 := hx.load 1 1 rfl rfl; go_simp; (first | done | exact rfl)) ?_
  simp only [List.set_cons_succ, List.set_cons_zero]
  refine take_call (i := 3) (f := 83) (args := #[.agg #[.int .u64 (tn (x1.lo)), .int .u64 (tn (x1.hi))]]) (v := .agg #[.int .u64 (tn (x1.lo)), .int .u64 (tn (x1.hi))]) (st_ups _ _) rfl rfl (by kernel_rfl) (fun _ _ _ h => h) (by rfl) (fun x hx => by kernel_rfl) (by intro x hx; exact span_unsigned_any x1 _) ?_
  simp only [List.set_cons_succ, List.set_cons_zero]
  refine take_call (i := 4) (f := 82) (args := #[.agg #[.int .u64 (tn (x0.lo)), .int .u64 (tn (x0.hi))], .agg #[.int .u64 (tn (x1.lo)), .int .u64 (tn (x1.hi))]]) (v := .tuple #[.agg #[.int .u64 (tn (((span_meet_uint64 x0 x1).1).lo)), .int .u64 (tn (((span_meet_uint64 x0 x1).1).hi))], .bool ((span_meet_uint64 x0 x1).2)]) (st_ups _ _) rfl rfl (by kernel_rfl) (fun _ _ _ h => h) (by rfl) (fun x hx => by kernel_rfl) (by intro x hx; exact span_meet_uint64_any x0 x1 _) ?_
  simp only [List.set_cons_succ, List.set_cons_zero]
  refine take_val (i := 5) (v := .tuple #[.agg #[.int .u64 (tn (((span_meet_uint64 x0 x1).1).lo)), .int .u64 (tn (((span_meet_uint64 x0 x1).1).hi))], .bool ((span_meet_uint64 x0 x1).2)]) (st_ups _ _) rfl rfl (by kernel_rfl) (fun _ _ _ h => h) (by rfl) (by intro x hx; go_simp; (first | done | exact rfl)) ?_
  simp only [List.set_cons_succ, List.set_cons_zero]
  refine take_val (i := 6) (v := .agg #[.int .u64 (tn (((span_meet_uint64 x0 x1).1).lo)), .int .u64 (tn (((span_meet_uint64 x0 x1).1).hi))]) (st_ups _ _) rfl rfl (by kernel_rfl) (fun _ _ _ h => h) (by rfl) (by intro x hx; go_simp; (first | done | exact rfl)) ?_
  simp only [List.set_cons_succ, List.set_cons_zero]
  refine take_val (i := 7) (v := .bool ((span_meet_uint64 x0 x1).2)) (st_ups _ _) rfl rfl (by kernel_rfl) (fun _ _ _ h => h) (by rfl) (by intro x hx; go_simp; (first | done | exact rfl)) ?_
  simp only [List.set_cons_succ, List.set_cons_zero]
  refine take_one (i := 8) (by kernel_rfl) (step_new rfl rfl (by rfl) [.int .u64 0, .int .u64 0] 71 (fun k => .pointer (some ⟨k, 0, none⟩)) [none, none] (lessC_no (lessC_no (trivial))) (by intro x hx; go_simp; (first | done | exact rfl)) (fun k1 => ?_))
  simp only [List.set_cons_succ, List.set_cons_zero]
  refine take_one (i := 9) (by kernel_rfl) (step_store (St w [⟨w.heap.size, [some (.int .u64 (tn (x0.lo))), some (.int .u64 (tn (x0.hi)))], 24⟩, ⟨w.heap.size + 1, [some (.int .u64 (tn (x1.lo))), some (.int .u64 (tn (x1.hi)))], 24⟩, ⟨w.heap.size + 2, [some (.int .u64 0), some (.int .u64 0)], 24⟩, ⟨k1, [some (.int .u64 (tn (((span_meet_uint64 x0 x1).1).lo))), some (.int .u64 (tn (((span_meet_uint64 x0 x1).1).hi)))], 71⟩]) (st_ups _ _) (fun x h => h.less (less_cons rfl rfl (lessC_eq (lessC_eq (trivial))) (less_cons rfl rfl (lessC_eq (lessC_eq (trivial))) (less_cons rfl rfl (lessC_eq (lessC_eq (trivial))) (less_cons rfl rfl (lessC_no (lessC_no (trivial))) (trivial)))))) rfl rfl (by rfl) (fun x => ((x.setCell ⟨k1, 0, none⟩ (.int .u64 (tn (((span_meet_uint64 x0 x1).1).lo)))).setCell ⟨k1, 1, none⟩ (.int .u64 (tn (((span_meet_uint64 x0 x1).1).hi))))) (by intro x hx; obtain ⟨u0, z0⟩ := hx.has 3 0 rfl (by simp); have q0 := hx.soft 3 0 rfl; obtain ⟨u1, z1⟩ := hx.has 3 1 rfl (by simp); have q1 := hx.soft 3 1 rfl; go_simp; (first | done | rfl)) (fun x hx => ((hx.put 3 0 (.int .u64 (tn (((span_meet_uint64 x0 x1).1).lo))) rfl).put 3 1 (.int .u64 (tn (((span_meet_uint64 x0 x1).1).hi))) rfl)) ?_)
  refine take_val (i := 10) (v := .bool ((span_meet_uint64 x0 x1).2)) (st_ups _ _) rfl rfl (by kernel_rfl) (fun _ _ _ h => h) (by rfl) (by intro x hx; go_simp; (first | done | exact rfl)) ?_
  simp only [List.set_cons_succ, List.set_cons_zero]
  refine take_done (by kernel_rfl) ?_ _
  intro W1 hx
  replace HS := hid hx
  clear hx
  -- region 2
  go_upto_region 2 with fail
  refine lin_begin (St w [⟨w.heap.size, [some (.int .u64 (tn (x0.lo))), some (.int .u64 (tn (x0.hi)))], 24⟩, ⟨w.heap.size + 1, [some (.int .u64 (tn (x1.lo))), some (.int .u64 (tn (x1.hi)))], 24⟩, ⟨w.heap.size + 2, [some (.int .u64 0), some (.int .u64 0)], 24⟩, ⟨k1, [some (.int .u64 (tn (((span_meet_uint64 x0 x1).1).lo))), some (.int .u64 (tn (((span_meet_uint64 x0 x1).1).hi)))], 71⟩]) rfl HS.out ?_
  refine lin_val (i := 0) (v := .agg #[.int .u64 (tn (((span_meet_uint64 x0 x1).1).lo)), .int .u64 (tn (((span_meet_uint64 x0 x1).1).hi))]) rfl rfl (by rfl) (by intro x hx; have f0 := hx.load 3 0 rfl rfl; have f1 := hx.load 3 1 rfl rfl; go_simp; (first | done | exact rfl)) ?_
  simp only [List.set_cons_succ, List.set_cons_zero]
  refine lin_call (i := 1) (f := 84) (args := #[.agg #[.int .u64 (tn (((span_meet_uint64 x0 x1).1).lo)), .int .u64 (tn (((span_meet_uint64 x0 x1).1).hi))]]) (v := .agg #[.int .u64 (tn (((span_meet_uint64 x0 x1).1).lo)), .int .u64 (tn (((span_meet_uint64 x0 x1).1).hi))]) (st_ups _ _) rfl rfl (by rfl) (fun x hx => by kernel_rfl) (by intro x hx; exact span_toUnsigned_any ((span_meet_uint64 x0 x1).1) _) ?_
  simp only [List.set_cons_succ, List.set_cons_zero]
  refine lin_val (i := 2) (v := .bool ((span_meet_uint64 x0 x1).2)) rfl rfl (by rfl) (by intro x hx; go_simp; (first | done | exact rfl)) ?_
  simp only [List.set_cons_succ, List.set_cons_zero]
  refine lin_store (i := 3) (St w [⟨w.heap.size, [some (.int .u64 (tn (x0.lo))), some (.int .u64 (tn (x0.hi)))], 24⟩, ⟨w.heap.size + 1, [some (.int .u64 (tn (x1.lo))), some (.int .u64 (tn (x1.hi)))], 24⟩, ⟨w.heap.size + 2, [some (.int .u64 (tn (((span_meet_uint64 x0 x1).1).lo))), some (.int .u64 (tn (((span_meet_uint64 x0 x1).1).hi)))], 24⟩, ⟨k1, [some (.int .u64 (tn (((span_meet_uint64 x0 x1).1).lo))), some (.int .u64 (tn (((span_meet_uint64 x0 x1).1).hi)))], 71⟩]) rfl rfl (by rfl) (fun x => ((x.setCell ⟨w.heap.size + 2, 0, none⟩ (.int .u64 (tn (((span_meet_uint64 x0 x1).1).lo)))).setCell ⟨w.heap.size + 2, 1, none⟩ (.int .u64 (tn (((span_meet_uint64 x0 x1).1).hi))))) (by intro x hx; obtain ⟨u0, z0⟩ := hx.has 2 0 rfl (by simp); have q0 := hx.soft 2 0 rfl; obtain ⟨u1, z1⟩ := hx.has 2 1 rfl (by simp); have q1 := hx.soft 2 1 rfl; go_simp; (first | done | rfl)) (fun x hx => ((hx.put 2 0 (.int .u64 (tn (((span_meet_uint64 x0 x1).1).lo))) rfl).put 2 1 (.int .u64 (tn (((span_meet_uint64 x0 x1).1).hi))) rfl)) ?_
  refine lin_val (i := 4) (v := .bool ((span_meet_uint64 x0 x1).2)) rfl rfl (by rfl) (by intro x hx; go_simp; (first | done | exact rfl)) ?_
  simp only [List.set_cons_succ, List.set_cons_zero]
  refine lin_done ?_
  intro W2 hx
  replace HS := hid hx
  clear hx
  go_wp2
  have r0 := HS.out.load 2 0 rfl rfl
  have r1 := HS.out.load 2 1 rfl rfl
  exact bodyPost_ret (v := .tuple #[.agg #[.int .u64 (tn (((span_meet_uint64 x0 x1).1).lo)), .int .u64 (tn (((span_meet_uint64 x0 x1).1).hi))], .bool ((span_meet_uint64 x0 x1).2)]) (by simp [results, Try.results13, go_sem, r0, r1]) rfl ⟨rfl, HS.out.below⟩
set_option maxRecDepth 100000 in
set_option maxHeartbeats 1000000 in
theorem span_sum_uint64_any (x0 : BitVec 64) (x1 : BitVec 64)  (w : World) :
    Calls Try.prog 115 #[.int .u64 (tn (x0)), .int .u64 (tn (x1))] w fun e w' => e = .returned (.tuple #[.int .u64 (tn (x0 + x1)), .bool (((geU (x0 + x1) x0) == (geU x1 0#64)))]) ∧ Below w.heap.size w w' := by
  go_enter Try.func115, Try.ntmps115
  have HS := hid (st_nil w)
  -- region 1
  go_upto_region 1 with fail
  refine lin_begin (St w []) rfl HS.out ?_
  refine lin_val (i := 0) (v := .int .u64 (tn (x0))) rfl rfl (by rfl) (by intro x hx; go_simp; (first | done | exact rfl)) ?_
  simp only [List.set_cons_succ, List.set_cons_zero]
  refine lin_val (i := 1) (v := .int .u64 (tn (x1))) rfl rfl (by rfl) (by intro x hx; go_simp; (first | done | exact rfl)) ?_
  simp only [List.set_cons_succ, List.set_cons_zero]
  refine lin_val (i := 2) (v := .int .u64 (tn (x0 + x1))) rfl rfl (by rfl) (by intro x hx; go_simp; (first | done | exact addUT x0 x1 | exact congrArg _ (addUT x0 x1) | (rw [addUT x0 x1]; done) | (rw [addUT x0 x1]; rfl))) ?_
  simp only [List.set_cons_succ, List.set_cons_zero]
  refine lin_val (i := 3) (v := .int .u64 (tn (x0 + x1))) rfl rfl (by rfl) (by intro x hx; go_simp; (first | done | exact rfl)) ?_
  simp only [List.set_cons_succ, List.set_cons_zero]
  refine lin_done ?_
  intro W1 hx
  replace HS := hid hx
  clear hx
  -- region 2
  go_upto_region 2 with fail
  refine lin_begin (St w []) rfl HS.out ?_
  refine lin_val (i := 0) (v := .int .u64 (tn (x0 + x1))) rfl rfl (by rfl) (by intro x hx; go_simp; (first | done | exact rfl)) ?_
  simp only [List.set_cons_succ, List.set_cons_zero]
  refine lin_val (i := 1) (v := .int .u64 (tn (x0 + x1))) rfl rfl (by rfl) (by intro x hx; go_simp; (first | done | exact rfl)) ?_
  simp only [List.set_cons_succ, List.set_cons_zero]
  refine lin_val (i := 2) (v := .int .u64 (tn (x0))) rfl rfl (by rfl) (by intro x hx; go_simp; (first | done | exact rfl)) ?_
  simp only [List.set_cons_succ, List.set_cons_zero]
  refine lin_val (i := 3) (v := .bool (geU (x0 + x1) x0)) rfl rfl (by rfl) (by intro x hx; go_simp; (first | done | exact geUT (x0 + x1) x0 | exact congrArg _ (geUT (x0 + x1) x0) | (rw [geUT (x0 + x1) x0]; done) | (rw [geUT (x0 + x1) x0]; rfl))) ?_
  simp only [List.set_cons_succ, List.set_cons_zero]
  refine lin_val (i := 4) (v := .int .u64 (tn (x1))) rfl rfl (by rfl) (by intro x hx; go_simp; (first | done | exact rfl)) ?_
  simp only [List.set_cons_succ, List.set_cons_zero]
  refine lin_val (i := 5) (v := .bool (geU x1 0#64)) rfl rfl (by rfl) (by intro x hx; go_simp; (first | done | exact geUT x1 0#64 | exact congrArg _ (geUT x1 0#64) | (rw [geUT x1 0#64]; done) | (rw [geUT x1 0#64]; rfl))) ?_
  simp only [List.set_cons_succ, List.set_cons_zero]
  refine lin_val (i := 6) (v := .bool (((geU (x0 + x1) x0) == (geU x1 0#64)))) rfl rfl (by rfl) (by intro x hx; go_simp; (first | done | exact rfl)) ?_
  simp only [List.set_cons_succ, List.set_cons_zero]
  refine lin_val (i := 7) (v := .int .u64 (tn (x0 + x1))) rfl rfl (by rfl) (by intro x hx; go_simp; (first | done | exact rfl)) ?_
  simp only [List.set_cons_succ, List.set_cons_zero]
  refine lin_val (i := 8) (v := .bool (((geU (x0 + x1) x0) == (geU x1 0#64)))) rfl rfl (by rfl) (by intro x hx; go_simp; (first | done | exact rfl)) ?_
  simp only [List.set_cons_succ, List.set_cons_zero]
  refine lin_done ?_
  intro W2 hx
  replace HS := hid hx
  clear hx
  go_wp2
  exact bodyPost_ret (v := .tuple #[.int .u64 (tn (x0 + x1)), .bool (((geU (x0 + x1) x0) == (geU x1 0#64)))]) (by simp [results, Try.results115, go_sem]) rfl ⟨rfl, HS.out.below⟩
def span_add_uint64 (x0 : P) (x1 : P) : P × Bool × Bool :=
  (P.mk (x0.lo + x1.lo) (x0.hi + x1.hi), ((geU (x0.lo + x1.lo) x0.lo) == (geU x1.lo 0#64)), ((geU (x0.hi + x1.hi) x0.hi) == (geU x1.hi 0#64)))
set_option maxRecDepth 100000 in
set_option maxHeartbeats 1000000 in
theorem span_add_uint64_any (x0 : P) (x1 : P)  (w : World) :
    Calls Try.prog 88 #[.agg #[.int .u64 (tn (x0.lo)), .int .u64 (tn (x0.hi))], .agg #[.int .u64 (tn (x1.lo)), .int .u64 (tn (x1.hi))]] w fun e w' => e = .returned (.tuple #[.agg #[.int .u64 (tn (((span_add_uint64 x0 x1).1).lo)), .int .u64 (tn (((span_add_uint64 x0 x1).1).hi))], .bool ((span_add_uint64 x0 x1).2.1), .bool ((span_add_uint64 x0 x1).2.2)]) ∧ Below w.heap.size w w' := by
  go_enter Try.func88, Try.ntmps88
  have HS := hid ((((st_nil w).alloc (k := w.heap.size) rfl [.int .u64 (tn (x0.lo)), .int .u64 (tn (x0.hi))] 71).alloc (k := w.heap.size + 1) (by simp) [.int .u64 (tn (x1.lo)), .int .u64 (tn (x1.hi))] 71).alloc (k := w.heap.size + 2) (by simp) [.int .u64 0, .int .u64 0] 71)
  -- region 1
  go_upto_region 1 with fail
  refine lin_begin (St w [⟨w.heap.size, [some (.int .u64 (tn (x0.lo))), some (.int .u64 (tn (x0.hi)))], 71⟩, ⟨w.heap.size + 1, [some (.int .u64 (tn (x1.lo))), some (.int .u64 (tn (x1.hi)))], 71⟩, ⟨w.heap.size + 2, [some (.int .u64 0), some (.int .u64 0)], 71⟩]) rfl HS.out ?_
  refine lin_val (i := 0) (v := .pointer (some ⟨w.heap.size, 0, none⟩)) rfl rfl (by rfl) (by intro x hx; go_simp; (first | done | exact rfl)) ?_
  simp only [List.set_cons_succ, List.set_cons_zero]
  refine lin_val (i := 1) (v := .int .u64 (tn (x0.lo))) rfl rfl (by rfl) (by intro x hx; have f0 := hx.load 0 0 rfl rfl; go_simp; (first | done | exact rfl)) ?_
  simp only [List.set_cons_succ, List.set_cons_zero]
  refine lin_val (i := 2) (v := .pointer (some ⟨w.heap.size + 1, 0, none⟩)) rfl rfl (by rfl) (by intro x hx; go_simp; (first | done | exact rfl)) ?_
  simp only [List.set_cons_succ, List.set_cons_zero]
  refine lin_val (i := 3) (v := .int .u64 (tn (x1.lo))) rfl rfl (by rfl) (by intro x hx; have f0 := hx.load 1 0 rfl rfl; go_simp; (first | done | exact rfl)) ?_
  simp only [List.set_cons_succ, List.set_cons_zero]
  refine lin_call (i := 4) (f := 115) (args := #[.int .u64 (tn (x0.lo)), .int .u64 (tn (x1.lo))]) (v := .tuple #[.int .u64 (tn (x0.lo + x1.lo)), .bool (((geU (x0.lo + x1.lo) x0.lo) == (geU x1.lo 0#64)))]) (st_ups _ _) rfl rfl (by rfl) (fun x hx => by kernel_rfl) (by intro x hx; exact span_sum_uint64_any x0.lo x1.lo _) ?_
  simp only [List.set_cons_succ, List.set_cons_zero]
  refine lin_val (i := 5) (v := .tuple #[.int .u64 (tn (x0.lo + x1.lo)), .bool (((geU (x0.lo + x1.lo) x0.lo) == (geU x1.lo 0#64)))]) rfl rfl (by rfl) (by intro x hx; go_simp; (first | done | exact rfl)) ?_
  simp only [List.set_cons_succ, List.set_cons_zero]
  refine lin_val (i := 6) (v := .int .u64 (tn (x0.lo + x1.lo))) rfl rfl (by rfl) (by intro x hx; go_simp; (first | done | exact rfl)) ?_
  simp only [List.set_cons_succ, List.set_cons_zero]
  refine lin_val (i := 7) (v := .bool (((geU (x0.lo + x1.lo) x0.lo) == (geU x1.lo 0#64)))) rfl rfl (by rfl) (by intro x hx; go_simp; (first | done | exact rfl)) ?_
  simp only [List.set_cons_succ, List.set_cons_zero]
  refine lin_val (i := 8) (v := .pointer (some ⟨w.heap.size + 2, 0, none⟩)) rfl rfl (by rfl) (by intro x hx; go_simp; (first | done | exact rfl)) ?_
  simp only [List.set_cons_succ, List.set_cons_zero]
  refine lin_store (i := 9) (St w [⟨w.heap.size, [some (.int .u64 (tn (x0.lo))), some (.int .u64 (tn (x0.hi)))], 71⟩, ⟨w.heap.size + 1, [some (.int .u64 (tn (x1.lo))), some (.int .u64 (tn (x1.hi)))], 71⟩, ⟨w.heap.size + 2, [some (.int .u64 (tn (x0.lo + x1.lo))), some (.int .u64 0)], 71⟩]) rfl rfl (by rfl) (fun x => (x.setCell ⟨w.heap.size + 2, 0, none⟩ (.int .u64 (tn (x0.lo + x1.lo))))) (by intro x hx; obtain ⟨u0, z0⟩ := hx.has 2 0 rfl (by simp); have q0 := hx.soft 2 0 rfl; go_simp; (first | done | rfl)) (fun x hx => (hx.put 2 0 (.int .u64 (tn (x0.lo + x1.lo))) rfl)) ?_
  refine lin_val (i := 10) (v := .bool (((geU (x0.lo + x1.lo) x0.lo) == (geU x1.lo 0#64)))) rfl rfl (by rfl) (by intro x hx; go_simp; (first | done | exact rfl)) ?_
  simp only [List.set_cons_succ, List.set_cons_zero]
  refine lin_done ?_
  intro W1 hx
  replace HS := hid hx
  clear hx
  -- region 2
  go_upto_region 2 with fail
  refine lin_begin (St w [⟨w.heap.size, [some (.int .u64 (tn (x0.lo))), some (.int .u64 (tn (x0.hi)))], 71⟩, ⟨w.heap.size + 1, [some (.int .u64 (tn (x1.lo))), some (.int .u64 (tn (x1.hi)))], 71⟩, ⟨w.heap.size + 2, [some (.int .u64 (tn (x0.lo + x1.lo))), some (.int .u64 0)], 71⟩]) rfl HS.out ?_
  refine lin_val (i := 0) (v := .pointer (some ⟨w.heap.size, 1, none⟩)) rfl rfl (by rfl) (by intro x hx; go_simp; (first | done | exact rfl)) ?_
  simp only [List.set_cons_succ, List.set_cons_zero]
  refine lin_val (i := 1) (v := .int .u64 (tn (x0.hi))) rfl rfl (by rfl) (by intro x hx; have f0 := hx.load 0 1 rfl rfl; go_simp; (first | done | exact rfl)) ?_
  simp only [List.set_cons_succ, List.set_cons_zero]
  refine lin_val (i := 2) (v := .pointer (some ⟨w.heap.size + 1, 1, none⟩)) rfl rfl (by rfl) (by intro x hx; go_simp; (first | done | exact rfl)) ?_
  simp only [List.set_cons_succ, List.set_cons_zero]
  refine lin_val (i := 3) (v := .int .u64 (tn (x1.hi))) rfl rfl (by rfl) (by intro x hx; have f0 := hx.load 1 1 rfl rfl; go_simp; (first | done | exact rfl)) ?_
  simp only [List.set_cons_succ, List.set_cons_zero]
  refine lin_call (i := 4) (f := 115) (args := #[.int .u64 (tn (x0.hi)), .int .u64 (tn (x1.hi))]) (v := .tuple #[.int .u64 (tn (x0.hi + x1.hi)), .bool (((geU (x0.hi + x1.hi) x0.hi) == (geU x1.hi 0#64)))]) (st_ups _ _) rfl rfl (by rfl) (fun x hx => by kernel_rfl) (by intro x hx; exact span_sum_uint64_any x0.hi x1.hi _) ?_
  simp only [List.set_cons_succ, List.set_cons_zero]
  refine lin_val (i := 5) (v := .tuple #[.int .u64 (tn (x0.hi + x1.hi)), .bool (((geU (x0.hi + x1.hi) x0.hi) == (geU x1.hi 0#64)))]) rfl rfl (by rfl) (by intro x hx; go_simp; (first | done | exact rfl)) ?_
  simp only [List.set_cons_succ, List.set_cons_zero]
  refine lin_val (i := 6) (v := .int .u64 (tn (x0.hi + x1.hi))) rfl rfl (by rfl) (by intro x hx; go_simp; (first | done | exact rfl)) ?_
  simp only [List.set_cons_succ, List.set_cons_zero]
  refine lin_val (i := 7) (v := .bool (((geU (x0.hi + x1.hi) x0.hi) == (geU x1.hi 0#64)))) rfl rfl (by rfl) (by intro x hx; go_simp; (first | done | exact rfl)) ?_
  simp only [List.set_cons_succ, List.set_cons_zero]
  refine lin_val (i := 8) (v := .pointer (some ⟨w.heap.size + 2, 1, none⟩)) rfl rfl (by rfl) (by intro x hx; go_simp; (first | done | exact rfl)) ?_
  simp only [List.set_cons_succ, List.set_cons_zero]
  refine lin_store (i := 9) (St w [⟨w.heap.size, [some (.int .u64 (tn (x0.lo))), some (.int .u64 (tn (x0.hi)))], 71⟩, ⟨w.heap.size + 1, [some (.int .u64 (tn (x1.lo))), some (.int .u64 (tn (x1.hi)))], 71⟩, ⟨w.heap.size + 2, [some (.int .u64 (tn (x0.lo + x1.lo))), some (.int .u64 (tn (x0.hi + x1.hi)))], 71⟩]) rfl rfl (by rfl) (fun x => (x.setCell ⟨w.heap.size + 2, 1, none⟩ (.int .u64 (tn (x0.hi + x1.hi))))) (by intro x hx; obtain ⟨u0, z0⟩ := hx.has 2 1 rfl (by simp); have q0 := hx.soft 2 1 rfl; go_simp; (first | done | rfl)) (fun x hx => (hx.put 2 1 (.int .u64 (tn (x0.hi + x1.hi))) rfl)) ?_
  refine lin_val (i := 10) (v := .bool (((geU (x0.hi + x1.hi) x0.hi) == (geU x1.hi 0#64)))) rfl rfl (by rfl) (by intro x hx; go_simp; (first | done | exact rfl)) ?_
  simp only [List.set_cons_succ, List.set_cons_zero]
  refine lin_done ?_
  intro W2 hx
  replace HS := hid hx
  clear hx
  -- region 3
  go_upto_region 3 with fail
  refine lin_begin (St w [⟨w.heap.size, [some (.int .u64 (tn (x0.lo))), some (.int .u64 (tn (x0.hi)))], 71⟩, ⟨w.heap.size + 1, [some (.int .u64 (tn (x1.lo))), some (.int .u64 (tn (x1.hi)))], 71⟩, ⟨w.heap.size + 2, [some (.int .u64 (tn (x0.lo + x1.lo))), some (.int .u64 (tn (x0.hi + x1.hi)))], 71⟩]) rfl HS.out ?_
  refine lin_val (i := 0) (v := .agg #[.int .u64 (tn (x0.lo + x1.lo)), .int .u64 (tn (x0.hi + x1.hi))]) rfl rfl (by rfl) (by intro x hx; have f0 := hx.load 2 0 rfl rfl; have f1 := hx.load 2 1 rfl rfl; go_simp; (first | done | exact rfl)) ?_
  simp only [List.set_cons_succ, List.set_cons_zero]
  refine lin_val (i := 1) (v := .bool (((geU (x0.lo + x1.lo) x0.lo) == (geU x1.lo 0#64)))) rfl rfl (by rfl) (by intro x hx; go_simp; (first | done | exact rfl)) ?_
  simp only [List.set_cons_succ, List.set_cons_zero]
  refine lin_val (i := 2) (v := .bool (((geU (x0.hi + x1.hi) x0.hi) == (geU x1.hi 0#64)))) rfl rfl (by rfl) (by intro x hx; go_simp; (first | done | exact rfl)) ?_
  simp only [List.set_cons_succ, List.set_cons_zero]
  refine lin_store (i := 3) (St w [⟨w.heap.size, [some (.int .u64 (tn (x0.lo))), some (.int .u64 (tn (x0.hi)))], 71⟩, ⟨w.heap.size + 1, [some (.int .u64 (tn (x1.lo))), some (.int .u64 (tn (x1.hi)))], 71⟩, ⟨w.heap.size + 2, [some (.int .u64 (tn (x0.lo + x1.lo))), some (.int .u64 (tn (x0.hi + x1.hi)))], 71⟩]) rfl rfl (by rfl) (fun x => ((x.setCell ⟨w.heap.size + 2, 0, none⟩ (.int .u64 (tn (x0.lo + x1.lo)))).setCell ⟨w.heap.size + 2, 1, none⟩ (.int .u64 (tn (x0.hi + x1.hi))))) (by intro x hx; obtain ⟨u0, z0⟩ := hx.has 2 0 rfl (by simp); have q0 := hx.soft 2 0 rfl; obtain ⟨u1, z1⟩ := hx.has 2 1 rfl (by simp); have q1 := hx.soft 2 1 rfl; go_simp; (first | done | rfl)) (fun x hx => ((hx.put 2 0 (.int .u64 (tn (x0.lo + x1.lo))) rfl).put 2 1 (.int .u64 (tn (x0.hi + x1.hi))) rfl)) ?_
  refine lin_val (i := 4) (v := .bool (((geU (x0.lo + x1.lo) x0.lo) == (geU x1.lo 0#64)))) rfl rfl (by rfl) (by intro x hx; go_simp; (first | done | exact rfl)) ?_
  simp only [List.set_cons_succ, List.set_cons_zero]
  refine lin_val (i := 5) (v := .bool (((geU (x0.hi + x1.hi) x0.hi) == (geU x1.hi 0#64)))) rfl rfl (by rfl) (by intro x hx; go_simp; (first | done | exact rfl)) ?_
  simp only [List.set_cons_succ, List.set_cons_zero]
  refine lin_done ?_
  intro W3 hx
  replace HS := hid hx
  clear hx
  go_wp2
  have r0 := HS.out.load 2 0 rfl rfl
  have r1 := HS.out.load 2 1 rfl rfl
  have HF : span_add_uint64 x0 x1 = (P.mk (x0.lo + x1.lo) (x0.hi + x1.hi), ((geU (x0.lo + x1.lo) x0.lo) == (geU x1.lo 0#64)), ((geU (x0.hi + x1.hi) x0.hi) == (geU x1.hi 0#64))) := by
    unfold span_add_uint64
    rfl
  exact bodyPost_ret (v := .tuple #[.agg #[.int .u64 (tn (x0.lo + x1.lo)), .int .u64 (tn (x0.hi + x1.hi))], .bool (((geU (x0.lo + x1.lo) x0.lo) == (geU x1.lo 0#64))), .bool (((geU (x0.hi + x1.hi) x0.hi) == (geU x1.hi 0#64)))]) (by simp [results, Try.results88, go_sem, r0, r1]) rfl ⟨(by first | (rw [HF]; done) | (rw [HF]; rfl)), HS.out.below⟩
def span_alike (x0 : P) (x1 : Bool) (x2 : Bool) : P :=
  bif (x1 != x2) then (P.mk 0#64 18446744073709551615#64) else (x0)
set_option maxRecDepth 100000 in
set_option maxHeartbeats 1000000 in
theorem span_alike_any (x0 : P) (x1 : Bool) (x2 : Bool)  (w : World) :
    Calls Try.prog 89 #[.agg #[.int .u64 (tn (x0.lo)), .int .u64 (tn (x0.hi))], .bool (x1), .bool (x2)] w fun e w' => e = .returned (.agg #[.int .u64 (tn ((span_alike x0 x1 x2).lo)), .int .u64 (tn ((span_alike x0 x1 x2).hi))]) ∧ Below w.heap.size w w' := by
  go_enter Try.func89, Try.ntmps89
  have HS := hid (((st_nil w).alloc (k := w.heap.size) rfl [.int .u64 (tn (x0.lo)), .int .u64 (tn (x0.hi))] 71).alloc (k := w.heap.size + 1) (by simp) [.int .u64 0, .int .u64 0] 24)
  -- region 1
  go_upto_region 1 with fail
  refine lin_begin (St w [⟨w.heap.size, [some (.int .u64 (tn (x0.lo))), some (.int .u64 (tn (x0.hi)))], 71⟩, ⟨w.heap.size + 1, [some (.int .u64 0), some (.int .u64 0)], 24⟩]) rfl HS.out ?_
  refine lin_val (i := 0) (v := .bool (x1)) rfl rfl (by rfl) (by intro x hx; go_simp; (first | done | exact rfl)) ?_
  simp only [List.set_cons_succ, List.set_cons_zero]
  refine lin_val (i := 1) (v := .bool (x2)) rfl rfl (by rfl) (by intro x hx; go_simp; (first | done | exact rfl)) ?_
  simp only [List.set_cons_succ, List.set_cons_zero]
  refine lin_val (i := 2) (v := .bool ((x1 != x2))) rfl rfl (by rfl) (by intro x hx; go_simp; (first | done | exact neB x1 x2 | exact congrArg _ (neB x1 x2) | (rw [neB x1 x2]; done) | (rw [neB x1 x2]; rfl))) ?_
  simp only [List.set_cons_succ, List.set_cons_zero]
  refine lin_done ?_
  intro W1 hx
  replace HS := hid hx
  clear hx
  cases h1 : ((x1 != x2))
  · replace h1 := hid h1
    -- region 3
    go_upto_region 3 with fail
    refine lin_begin (St w [⟨w.heap.size, [some (.int .u64 (tn (x0.lo))), some (.int .u64 (tn (x0.hi)))], 71⟩, ⟨w.heap.size + 1, [some (.int .u64 0), some (.int .u64 0)], 24⟩]) rfl HS.out ?_
    refine lin_val (i := 0) (v := .agg #[.int .u64 (tn (x0.lo)), .int .u64 (tn (x0.hi))]) rfl rfl (by rfl) (by intro x hx; have f0 := hx.load 0 0 rfl rfl; have f1 := hx.load 0 1 rfl rfl; go_simp; (first | done | exact rfl)) ?_
    simp only [List.set_cons_succ, List.set_cons_zero]
    refine lin_call (i := 1) (f := 84) (args := #[.agg #[.int .u64 (tn (x0.lo)), .int .u64 (tn (x0.hi))]]) (v := .agg #[.int .u64 (tn (x0.lo)), .int .u64 (tn (x0.hi))]) (st_ups _ _) rfl rfl (by rfl) (fun x hx => by kernel_rfl) (by intro x hx; exact span_toUnsigned_any x0 _) ?_
    simp only [List.set_cons_succ, List.set_cons_zero]
    refine lin_store (i := 2) (St w [⟨w.heap.size, [some (.int .u64 (tn (x0.lo))), some (.int .u64 (tn (x0.hi)))], 71⟩, ⟨w.heap.size + 1, [some (.int .u64 (tn (x0.lo))), some (.int .u64 (tn (x0.hi)))], 24⟩]) rfl rfl (by rfl) (fun x => ((x.setCell ⟨w.heap.size + 1, 0, none⟩ (.int .u64 (tn (x0.lo)))).setCell ⟨w.heap.size + 1, 1, none⟩ (.int .u64 (tn (x0.hi))))) (by intro x hx; obtain ⟨u0, z0⟩ := hx.has 1 0 rfl (by simp); have q0 := hx.soft 1 0 rfl; obtain ⟨u1, z1⟩ := hx.has 1 1 rfl (by simp); have q1 := hx.soft 1 1 rfl; go_simp; (first | done | rfl)) (fun x hx => ((hx.put 1 0 (.int .u64 (tn (x0.lo))) rfl).put 1 1 (.int .u64 (tn (x0.hi))) rfl)) ?_
    refine lin_done ?_
    intro W2 hx
    replace HS := hid hx
    clear hx
    go_wp2
    have r0 := HS.out.load 1 0 rfl rfl
    have r1 := HS.out.load 1 1 rfl rfl
    have HF : span_alike x0 x1 x2 = x0 := by
      unfold span_alike
      rw [cond_f h1.out]
    exact bodyPost_ret (v := .agg #[.int .u64 (tn (x0.lo)), .int .u64 (tn (x0.hi))]) (by simp [results, Try.results89, go_sem, r0, r1]) rfl ⟨(by first | (rw [HF]; done) | (rw [HF]; rfl)), HS.out.below⟩
  · replace h1 := hid h1
    -- region 2
    go_upto_region 2 with fail
    refine lin_begin (St w [⟨w.heap.size, [some (.int .u64 (tn (x0.lo))), some (.int .u64 (tn (x0.hi)))], 71⟩, ⟨w.heap.size + 1, [some (.int .u64 0), some (.int .u64 0)], 24⟩]) rfl HS.out ?_
    refine lin_call (i := 0) (f := 17) (args := #[]) (v := .agg #[.int .u64 (tn (0#64)), .int .u64 (tn (18446744073709551615#64))]) (st_ups _ _) rfl rfl (by rfl) (fun x hx => by kernel_rfl) (by intro x hx; exact span_All_any _) ?_
    simp only [List.set_cons_succ, List.set_cons_zero]
    refine lin_store (i := 1) (St w [⟨w.heap.size, [some (.int .u64 (tn (x0.lo))), some (.int .u64 (tn (x0.hi)))], 71⟩, ⟨w.heap.size + 1, [some (.int .u64 (tn (0#64))), some (.int .u64 (tn (18446744073709551615#64)))], 24⟩]) rfl rfl (by rfl) (fun x => ((x.setCell ⟨w.heap.size + 1, 0, none⟩ (.int .u64 (tn (0#64)))).setCell ⟨w.heap.size + 1, 1, none⟩ (.int .u64 (tn (18446744073709551615#64))))) (by intro x hx; obtain ⟨u0, z0⟩ := hx.has 1 0 rfl (by simp); have q0 := hx.soft 1 0 rfl; obtain ⟨u1, z1⟩ := hx.has 1 1 rfl (by simp); have q1 := hx.soft 1 1 rfl; go_simp; (first | done | rfl)) (fun x hx => ((hx.put 1 0 (.int .u64 (tn (0#64))) rfl).put 1 1 (.int .u64 (tn (18446744073709551615#64))) rfl)) ?_
    refine lin_done ?_
    intro W2 hx
    replace HS := hid hx
    clear hx
    go_wp2
    have r0 := HS.out.load 1 0 rfl rfl
    have r1 := HS.out.load 1 1 rfl rfl
    have HF : span_alike x0 x1 x2 = P.mk 0#64 18446744073709551615#64 := by
      unfold span_alike
      rw [cond_t h1.out]
    exact bodyPost_ret (v := .agg #[.int .u64 (tn (0#64)), .int .u64 (tn (18446744073709551615#64))]) (by simp [results, Try.results89, go_sem, r0, r1]) rfl ⟨(by first | (rw [HF]; done) | (rw [HF]; rfl)), HS.out.below⟩
def span_Add (x0 : P) (x1 : P) : P :=
  span_alike ((span_add_uint64 x0 x1).1) ((span_add_uint64 x0 x1).2.1) ((span_add_uint64 x0 x1).2.2)
set_option maxRecDepth 100000 in
set_option maxHeartbeats 1000000 in
theorem span_Add_any (x0 : P) (x1 : P)  (w : World) :
    Calls Try.prog 25 #[.agg #[.int .u64 (tn (x0.lo)), .int .u64 (tn (x0.hi))], .agg #[.int .u64 (tn (x1.lo)), .int .u64 (tn (x1.hi))]] w fun e w' => e = .returned (.agg #[.int .u64 (tn ((span_Add x0 x1).lo)), .int .u64 (tn ((span_Add x0 x1).hi))]) ∧ Below w.heap.size w w' := by
  go_enter Try.func25, Try.ntmps25
  have HS := hid ((((st_nil w).alloc (k := w.heap.size) rfl [.int .u64 (tn (x0.lo)), .int .u64 (tn (x0.hi))] 24).alloc (k := w.heap.size + 1) (by simp) [.int .u64 (tn (x1.lo)), .int .u64 (tn (x1.hi))] 24).alloc (k := w.heap.size + 2) (by simp) [.int .u64 0, .int .u64 0] 24)
  -- region 1
  go_upto_region 1 with fail
  refine up_begin (St w [⟨w.heap.size, [some (.int .u64 (tn (x0.lo))), some (.int .u64 (tn (x0.hi)))], 24⟩, ⟨w.heap.size + 1, [some (.int .u64 (tn (x1.lo))), some (.int .u64 (tn (x1.hi)))], 24⟩, ⟨w.heap.size + 2, [some (.int .u64 0), some (.int .u64 0)], 24⟩]) 13 rfl (by kernel_rfl) (HS.out.drew) ?_
  refine take_val (i := 0) (v := .agg #[.int .u64 (tn (x0.lo)), .int .u64 (tn (x0.hi))]) (st_ups _ _) rfl rfl (by kernel_rfl) (fun _ _ _ h => h) (by rfl) (by intro x hx; have f0 := hx.load 0 0 rfl rfl; have f1 := hx.load 0 1 rfl rfl; go_simp; (first | done | exact rfl)) ?_
  simp only [List.set_cons_succ, List.set_cons_zero]
  refine take_call (i := 1) (f := 83) (args := #[.agg #[.int .u64 (tn (x0.lo)), .int .u64 (tn (x0.hi))]]) (v := .agg #[.int .u64 (tn (x0.lo)), .int .u64 (tn (x0.hi))]) (st_ups _ _) rfl rfl (by kernel_rfl) (fun _ _ _ h => h) (by rfl) (fun x hx => by kernel_rfl) (by intro x hx; exact span_unsigned_any x0 _) ?_
  simp only [List.set_cons_succ, List.set_cons_zero]
  refine take_val (i := 2) (v := .agg #[.int .u64 (tn (x1.lo)), .int .u64 (tn (x1.hi))]) (st_ups _ _) rfl rfl (by kernel_rfl) (fun _ _ _ h => h) (by rfl) (by intro x hx; have f0 := hx.load 1 0 rfl rfl; have f1 := hx.load 1 1 rfl rfl; go_simp; (first | done | exact rfl)) ?_
  simp only [List.set_cons_succ, List.set_cons_zero]
  refine take_call (i := 3) (f := 83) (args := #[.agg #[.int .u64 (tn (x1.lo)), .int .u64 (tn (x1.hi))]]) (v := .agg #[.int .u64 (tn (x1.lo)), .int .u64 (tn (x1.hi))]) (st_ups _ _) rfl rfl (by kernel_rfl) (fun _ _ _ h => h) (by rfl) (fun x hx => by kernel_rfl) (by intro x hx; exact span_unsigned_any x1 _) ?_
  simp only [List.set_cons_succ, List.set_cons_zero]
  refine take_call (i := 4) (f := 88) (args := #[.agg #[.int .u64 (tn (x0.lo)), .int .u64 (tn (x0.hi))], .agg #[.int .u64 (tn (x1.lo)), .int .u64 (tn (x1.hi))]]) (v := .tuple #[.agg #[.int .u64 (tn (((span_add_uint64 x0 x1).1).lo)), .int .u64 (tn (((span_add_uint64 x0 x1).1).hi))], .bool ((span_add_uint64 x0 x1).2.1), .bool ((span_add_uint64 x0 x1).2.2)]) (st_ups _ _) rfl rfl (by kernel_rfl) (fun _ _ _ h => h) (by rfl) (fun x hx => by kernel_rfl) (by intro x hx; exact span_add_uint64_any x0 x1 _) ?_
  simp only [List.set_cons_succ, List.set_cons_zero]
  refine take_val (i := 5) (v := .tuple #[.agg #[.int .u64 (tn (((span_add_uint64 x0 x1).1).lo)), .int .u64 (tn (((span_add_uint64 x0 x1).1).hi))], .bool ((span_add_uint64 x0 x1).2.1), .bool ((span_add_uint64 x0 x1).2.2)]) (st_ups _ _) rfl rfl (by kernel_rfl) (fun _ _ _ h => h) (by rfl) (by intro x hx; go_simp; (first | done | exact rfl)) ?_
  simp only [List.set_cons_succ, List.set_cons_zero]
  refine take_val (i := 6) (v := .agg #[.int .u64 (tn (((span_add_uint64 x0 x1).1).lo)), .int .u64 (tn (((span_add_uint64 x0 x1).1).hi))]) (st_ups _ _) rfl rfl (by kernel_rfl) (fun _ _ _ h => h) (by rfl) (by intro x hx; go_simp; (first | done | exact rfl)) ?_
  simp only [List.set_cons_succ, List.set_cons_zero]
  refine take_val (i := 7) (v := .bool ((span_add_uint64 x0 x1).2.1)) (st_ups _ _) rfl rfl (by kernel_rfl) (fun _ _ _ h => h) (by rfl) (by intro x hx; go_simp; (first | done | exact rfl)) ?_
  simp only [List.set_cons_succ, List.set_cons_zero]
  refine take_val (i := 8) (v := .bool ((span_add_uint64 x0 x1).2.2)) (st_ups _ _) rfl rfl (by kernel_rfl) (fun _ _ _ h => h) (by rfl) (by intro x hx; go_simp; (first | done | exact rfl)) ?_
  simp only [List.set_cons_succ, List.set_cons_zero]
  refine take_one (i := 9) (by kernel_rfl) (step_new rfl rfl (by rfl) [.int .u64 0, .int .u64 0] 71 (fun k => .pointer (some ⟨k, 0, none⟩)) [none, none] (lessC_no (lessC_no (trivial))) (by intro x hx; go_simp; (first | done | exact rfl)) (fun k1 => ?_))
  simp only [List.set_cons_succ, List.set_cons_zero]
  refine take_one (i := 10) (by kernel_rfl) (step_store (St w [⟨w.heap.size, [some (.int .u64 (tn (x0.lo))), some (.int .u64 (tn (x0.hi)))], 24⟩, ⟨w.heap.size + 1, [some (.int .u64 (tn (x1.lo))), some (.int .u64 (tn (x1.hi)))], 24⟩, ⟨w.heap.size + 2, [some (.int .u64 0), some (.int .u64 0)], 24⟩, ⟨k1, [some (.int .u64 (tn (((span_add_uint64 x0 x1).1).lo))), some (.int .u64 (tn (((span_add_uint64 x0 x1).1).hi)))], 71⟩]) (st_ups _ _) (fun x h => h.less (less_cons rfl rfl (lessC_eq (lessC_eq (trivial))) (less_cons rfl rfl (lessC_eq (lessC_eq (trivial))) (less_cons rfl rfl (lessC_eq (lessC_eq (trivial))) (less_cons rfl rfl (lessC_no (lessC_no (trivial))) (trivial)))))) rfl rfl (by rfl) (fun x => ((x.setCell ⟨k1, 0, none⟩ (.int .u64 (tn (((span_add_uint64 x0 x1).1).lo)))).setCell ⟨k1, 1, none⟩ (.int .u64 (tn (((span_add_uint64 x0 x1).1).hi))))) (by intro x hx; obtain ⟨u0, z0⟩ := hx.has 3 0 rfl (by simp); have q0 := hx.soft 3 0 rfl; obtain ⟨u1, z1⟩ := hx.has 3 1 rfl (by simp); have q1 := hx.soft 3 1 rfl; go_simp; (first | done | rfl)) (fun x hx => ((hx.put 3 0 (.int .u64 (tn (((span_add_uint64 x0 x1).1).lo))) rfl).put 3 1 (.int .u64 (tn (((span_add_uint64 x0 x1).1).hi))) rfl)) ?_)
  refine take_val (i := 11) (v := .bool ((span_add_uint64 x0 x1).2.1)) (st_ups _ _) rfl rfl (by kernel_rfl) (fun _ _ _ h => h) (by rfl) (by intro x hx; go_simp; (first | done | exact rfl)) ?_
  simp only [List.set_cons_succ, List.set_cons_zero]
  refine take_val (i := 12) (v := .bool ((span_add_uint64 x0 x1).2.2)) (st_ups _ _) rfl rfl (by kernel_rfl) (fun _ _ _ h => h) (by rfl) (by intro x hx; go_simp; (first | done | exact rfl)) ?_
  simp only [List.set_cons_succ, List.set_cons_zero]
  refine take_done (by kernel_rfl) ?_ _
  intro W1 hx
  replace HS := hid hx
  clear hx
  -- region 2
  go_upto_region 2 with fail
  refine lin_begin (St w [⟨w.heap.size, [some (.int .u64 (tn (x0.lo))), some (.int .u64 (tn (x0.hi)))], 24⟩, ⟨w.heap.size + 1, [some (.int .u64 (tn (x1.lo))), some (.int .u64 (tn (x1.hi)))], 24⟩, ⟨w.heap.size + 2, [some (.int .u64 0), some (.int .u64 0)], 24⟩, ⟨k1, [some (.int .u64 (tn (((span_add_uint64 x0 x1).1).lo))), some (.int .u64 (tn (((span_add_uint64 x0 x1).1).hi)))], 71⟩]) rfl HS.out ?_
  refine lin_val (i := 0) (v := .agg #[.int .u64 (tn (((span_add_uint64 x0 x1).1).lo)), .int .u64 (tn (((span_add_uint64 x0 x1).1).hi))]) rfl rfl (by rfl) (by intro x hx; have f0 := hx.load 3 0 rfl rfl; have f1 := hx.load 3 1 rfl rfl; go_simp; (first | done | exact rfl)) ?_
  simp only [List.set_cons_succ, List.set_cons_zero]
  refine lin_val (i := 1) (v := .bool ((span_add_uint64 x0 x1).2.1)) rfl rfl (by rfl) (by intro x hx; go_simp; (first | done | exact rfl)) ?_
  simp only [List.set_cons_succ, List.set_cons_zero]
  refine lin_val (i := 2) (v := .bool ((span_add_uint64 x0 x1).2.2)) rfl rfl (by rfl) (by intro x hx; go_simp; (first | done | exact rfl)) ?_
  simp only [List.set_cons_succ, List.set_cons_zero]
  refine lin_call (i := 3) (f := 89) (args := #[.agg #[.int .u64 (tn (((span_add_uint64 x0 x1).1).lo)), .int .u64 (tn (((span_add_uint64 x0 x1).1).hi))], .bool ((span_add_uint64 x0 x1).2.1), .bool ((span_add_uint64 x0 x1).2.2)]) (v := .agg #[.int .u64 (tn ((span_alike ((span_add_uint64 x0 x1).1) ((span_add_uint64 x0 x1).2.1) ((span_add_uint64 x0 x1).2.2)).lo)), .int .u64 (tn ((span_alike ((span_add_uint64 x0 x1).1) ((span_add_uint64 x0 x1).2.1) ((span_add_uint64 x0 x1).2.2)).hi))]) (st_ups _ _) rfl rfl (by rfl) (fun x hx => by kernel_rfl) (by intro x hx; exact span_alike_any ((span_add_uint64 x0 x1).1) ((span_add_uint64 x0 x1).2.1) ((span_add_uint64 x0 x1).2.2) _) ?_
  simp only [List.set_cons_succ, List.set_cons_zero]
  refine lin_store (i := 4) (St w [⟨w.heap.size, [some (.int .u64 (tn (x0.lo))), some (.int .u64 (tn (x0.hi)))], 24⟩, ⟨w.heap.size + 1, [some (.int .u64 (tn (x1.lo))), some (.int .u64 (tn (x1.hi)))], 24⟩, ⟨w.heap.size + 2, [some (.int .u64 (tn ((span_alike ((span_add_uint64 x0 x1).1) ((span_add_uint64 x0 x1).2.1) ((span_add_uint64 x0 x1).2.2)).lo))), some (.int .u64 (tn ((span_alike ((span_add_uint64 x0 x1).1) ((span_add_uint64 x0 x1).2.1) ((span_add_uint64 x0 x1).2.2)).hi)))], 24⟩, ⟨k1, [some (.int .u64 (tn (((span_add_uint64 x0 x1).1).lo))), some (.int .u64 (tn (((span_add_uint64 x0 x1).1).hi)))], 71⟩]) rfl rfl (by rfl) (fun x => ((x.setCell ⟨w.heap.size + 2, 0, none⟩ (.int .u64 (tn ((span_alike ((span_add_uint64 x0 x1).1) ((span_add_uint64 x0 x1).2.1) ((span_add_uint64 x0 x1).2.2)).lo)))).setCell ⟨w.heap.size + 2, 1, none⟩ (.int .u64 (tn ((span_alike ((span_add_uint64 x0 x1).1) ((span_add_uint64 x0 x1).2.1) ((span_add_uint64 x0 x1).2.2)).hi))))) (by intro x hx; obtain ⟨u0, z0⟩ := hx.has 2 0 rfl (by simp); have q0 := hx.soft 2 0 rfl; obtain ⟨u1, z1⟩ := hx.has 2 1 rfl (by simp); have q1 := hx.soft 2 1 rfl; go_simp; (first | done | rfl)) (fun x hx => ((hx.put 2 0 (.int .u64 (tn ((span_alike ((span_add_uint64 x0 x1).1) ((span_add_uint64 x0 x1).2.1) ((span_add_uint64 x0 x1).2.2)).lo))) rfl).put 2 1 (.int .u64 (tn ((span_alike ((span_add_uint64 x0 x1).1) ((span_add_uint64 x0 x1).2.1) ((span_add_uint64 x0 x1).2.2)).hi))) rfl)) ?_
  refine lin_done ?_
  intro W2 hx
  replace HS := hid hx
  clear hx
  go_wp2
  have r0 := HS.out.load 2 0 rfl rfl
  have r1 := HS.out.load 2 1 rfl rfl
  have HF : span_Add x0 x1 = span_alike ((span_add_uint64 x0 x1).1) ((span_add_uint64 x0 x1).2.1) ((span_add_uint64 x0 x1).2.2) := by
    unfold span_Add
    rfl
  exact bodyPost_ret (v := .agg #[.int .u64 (tn ((span_alike ((span_add_uint64 x0 x1).1) ((span_add_uint64 x0 x1).2.1) ((span_add_uint64 x0 x1).2.2)).lo)), .int .u64 (tn ((span_alike ((span_add_uint64 x0 x1).1) ((span_add_uint64 x0 x1).2.1) ((span_add_uint64 x0 x1).2.2)).hi))]) (by simp [results, Try.results25, go_sem, r0, r1]) rfl ⟨(by first | (rw [HF]; done) | (rw [HF]; rfl)), HS.out.below⟩
set_option maxRecDepth 100000 in
set_option maxHeartbeats 1000000 in
theorem span_difference_uint64_any (x0 : BitVec 64) (x1 : BitVec 64)  (w : World) :
    Calls Try.prog 116 #[.int .u64 (tn (x0)), .int .u64 (tn (x1))] w fun e w' => e = .returned (.tuple #[.int .u64 (tn (x0 - x1)), .bool (((leU (x0 - x1) x0) == (geU x1 0#64)))]) ∧ Below w.heap.size w w' := by
  go_enter Try.func116, Try.ntmps116
  have HS := hid (st_nil w)
  -- region 1
  go_upto_region 1 with fail
  refine lin_begin (St w []) rfl HS.out ?_
  refine lin_val (i := 0) (v := .int .u64 (tn (x0))) rfl rfl (by rfl) (by intro x hx; go_simp; (first | done | exact rfl)) ?_
  simp only [List.set_cons_succ, List.set_cons_zero]
  refine lin_val (i := 1) (v := .int .u64 (tn (x1))) rfl rfl (by rfl) (by intro x hx; go_simp; (first | done | exact rfl)) ?_
  simp only [List.set_cons_succ, List.set_cons_zero]
  refine lin_val (i := 2) (v := .int .u64 (tn (x0 - x1))) rfl rfl (by rfl) (by intro x hx; go_simp; (first | done | exact subUT x0 x1 | exact congrArg _ (subUT x0 x1) | (rw [subUT x0 x1]; done) | (rw [subUT x0 x1]; rfl))) ?_
  simp only [List.set_cons_succ, List.set_cons_zero]
  refine lin_val (i := 3) (v := .int .u64 (tn (x0 - x1))) rfl rfl (by rfl) (by intro x hx; go_simp; (first | done | exact rfl)) ?_
  simp only [List.set_cons_succ, List.set_cons_zero]
  refine lin_done ?_
  intro W1 hx
  replace HS := hid hx
  clear hx
  -- region 2
  go_upto_region 2 with fail
  refine lin_begin (St w []) rfl HS.out ?_
  refine lin_val (i := 0) (v := .int .u64 (tn (x0 - x1))) rfl rfl (by rfl) (by intro x hx; go_simp; (first | done | exact rfl)) ?_
  simp only [List.set_cons_succ, List.set_cons_zero]
  refine lin_val (i := 1) (v := .int .u64 (tn (x0 - x1))) rfl rfl (by rfl) (by intro x hx; go_simp; (first | done | exact rfl)) ?_
  simp only [List.set_cons_succ, List.set_cons_zero]
  refine lin_val (i := 2) (v := .int .u64 (tn (x0))) rfl rfl (by rfl) (by intro x hx; go_simp; (first | done | exact rfl)) ?_
  simp only [List.set_cons_succ, List.set_cons_zero]
  refine lin_val (i := 3) (v := .bool (leU (x0 - x1) x0)) rfl rfl (by rfl) (by intro x hx; go_simp; (first | done | exact leUT (x0 - x1) x0 | exact congrArg _ (leUT (x0 - x1) x0) | (rw [leUT (x0 - x1) x0]; done) | (rw [leUT (x0 - x1) x0]; rfl))) ?_
  simp only [List.set_cons_succ, List.set_cons_zero]
  refine lin_val (i := 4) (v := .int .u64 (tn (x1))) rfl rfl (by rfl) (by intro x hx; go_simp; (first | done | exact rfl)) ?_
  simp only [List.set_cons_succ, List.set_cons_zero]
  refine lin_val (i := 5) (v := .bool (geU x1 0#64)) rfl rfl (by rfl) (by intro x hx; go_simp; (first | done | exact geUT x1 0#64 | exact congrArg _ (geUT x1 0#64) | (rw [geUT x1 0#64]; done) | (rw [geUT x1 0#64]; rfl))) ?_
  simp only [List.set_cons_succ, List.set_cons_zero]
  refine lin_val (i := 6) (v := .bool (((leU (x0 - x1) x0) == (geU x1 0#64)))) rfl rfl (by rfl) (by intro x hx; go_simp; (first | done | exact rfl)) ?_
  simp only [List.set_cons_succ, List.set_cons_zero]
  refine lin_val (i := 7) (v := .int .u64 (tn (x0 - x1))) rfl rfl (by rfl) (by intro x hx; go_simp; (first | done | exact rfl)) ?_
  simp only [List.set_cons_succ, List.set_cons_zero]
  refine lin_val (i := 8) (v := .bool (((leU (x0 - x1) x0) == (geU x1 0#64)))) rfl rfl (by rfl) (by intro x hx; go_simp; (first | done | exact rfl)) ?_
  simp only [List.set_cons_succ, List.set_cons_zero]
  refine lin_done ?_
  intro W2 hx
  replace HS := hid hx
  clear hx
  go_wp2
  exact bodyPost_ret (v := .tuple #[.int .u64 (tn (x0 - x1)), .bool (((leU (x0 - x1) x0) == (geU x1 0#64)))]) (by simp [results, Try.results116, go_sem]) rfl ⟨rfl, HS.out.below⟩
def span_sub_uint64 (x0 : P) (x1 : P) : P × Bool × Bool :=
  (P.mk (x0.lo - x1.hi) (x0.hi - x1.lo), ((leU (x0.lo - x1.hi) x0.lo) == (geU x1.hi 0#64)), ((leU (x0.hi - x1.lo) x0.hi) == (geU x1.lo 0#64)))
set_option maxRecDepth 100000 in
set_option maxHeartbeats 1000000 in
theorem span_sub_uint64_any (x0 : P) (x1 : P)  (w : World) :
    Calls Try.prog 91 #[.agg #[.int .u64 (tn (x0.lo)), .int .u64 (tn (x0.hi))], .agg #[.int .u64 (tn (x1.lo)), .int .u64 (tn (x1.hi))]] w fun e w' => e = .returned (.tuple #[.agg #[.int .u64 (tn (((span_sub_uint64 x0 x1).1).lo)), .int .u64 (tn (((span_sub_uint64 x0 x1).1).hi))], .bool ((span_sub_uint64 x0 x1).2.1), .bool ((span_sub_uint64 x0 x1).2.2)]) ∧ Below w.heap.size w w' := by
  go_enter Try.func91, Try.ntmps91
  have HS := hid ((((st_nil w).alloc (k := w.heap.size) rfl [.int .u64 (tn (x0.lo)), .int .u64 (tn (x0.hi))] 71).alloc (k := w.heap.size + 1) (by simp) [.int .u64 (tn (x1.lo)), .int .u64 (tn (x1.hi))] 71).alloc (k := w.heap.size + 2) (by simp) [.int .u64 0, .int .u64 0] 71)
  -- region 1
  go_upto_region 1 with fail
  refine lin_begin (St w [⟨w.heap.size, [some (.int .u64 (tn (x0.lo))), some (.int .u64 (tn (x0.hi)))], 71⟩, ⟨w.heap.size + 1, [some (.int .u64 (tn (x1.lo))), some (.int .u64 (tn (x1.hi)))], 71⟩, ⟨w.heap.size + 2, [some (.int .u64 0), some (.int .u64 0)], 71⟩]) rfl HS.out ?_
  refine lin_val (i := 0) (v := .pointer (some ⟨w.heap.size, 0, none⟩)) rfl rfl (by rfl) (by intro x hx; go_simp; (first | done | exact rfl)) ?_
  simp only [List.set_cons_succ, List.set_cons_zero]
  refine lin_val (i := 1) (v := .int .u64 (tn (x0.lo))) rfl rfl (by rfl) (by intro x hx; have f0 := hx.load 0 0 rfl rfl; go_simp; (first | done | exact rfl)) ?_
  simp only [List.set_cons_succ, List.set_cons_zero]
  refine lin_val (i := 2) (v := .pointer (some ⟨w.heap.size + 1, 1, none⟩)) rfl rfl (by rfl) (by intro x hx; go_simp; (first | done | exact rfl)) ?_
  simp only [List.set_cons_succ, List.set_cons_zero]
  refine lin_val (i := 3) (v := .int .u64 (tn (x1.hi))) rfl rfl (by rfl) (by intro x hx; have f0 := hx.load 1 1 rfl rfl; go_simp; (first | done | exact rfl)) ?_
  simp only [List.set_cons_succ, List.set_cons_zero]
  refine lin_call (i := 4) (f := 116) (args := #[.int .u64 (tn (x0.lo)), .int .u64 (tn (x1.hi))]) (v := .tuple #[.int .u64 (tn (x0.lo - x1.hi)), .bool (((leU (x0.lo - x1.hi) x0.lo) == (geU x1.hi 0#64)))]) (st_ups _ _) rfl rfl (by rfl) (fun x hx => by kernel_rfl) (by intro x hx; exact span_difference_uint64_any x0.lo x1.hi _) ?_
  simp only [List.set_cons_succ, List.set_cons_zero]
  refine lin_val (i := 5) (v := .tuple #[.int .u64 (tn (x0.lo - x1.hi)), .bool (((leU (x0.lo - x1.hi) x0.lo) == (geU x1.hi 0#64)))]) rfl rfl (by rfl) (by intro x hx; go_simp; (first | done | exact rfl)) ?_
  simp only [List.set_cons_succ, List.set_cons_zero]
  refine lin_val (i := 6) (v := .int .u64 (tn (x0.lo - x1.hi))) rfl rfl (by rfl) (by intro x hx; go_simp; (first | done | exact rfl)) ?_
  simp only [List.set_cons_succ, List.set_cons_zero]
  refine lin_val (i := 7) (v := .bool (((leU (x0.lo - x1.hi) x0.lo) == (geU x1.hi 0#64)))) rfl rfl (by rfl) (by intro x hx; go_simp; (first | done | exact rfl)) ?_
  simp only [List.set_cons_succ, List.set_cons_zero]
  refine lin_val (i := 8) (v := .pointer (some ⟨w.heap.size + 2, 0, none⟩)) rfl rfl (by rfl) (by intro x hx; go_simp; (first | done | exact rfl)) ?_
  simp only [List.set_cons_succ, List.set_cons_zero]
  refine lin_store (i := 9) (St w [⟨w.heap.size, [some (.int .u64 (tn (x0.lo))), some (.int .u64 (tn (x0.hi)))], 71⟩, ⟨w.heap.size + 1, [some (.int .u64 (tn (x1.lo))), some (.int .u64 (tn (x1.hi)))], 71⟩, ⟨w.heap.size + 2, [some (.int .u64 (tn (x0.lo - x1.hi))), some (.int .u64 0)], 71⟩]) rfl rfl (by rfl) (fun x => (x.setCell ⟨w.heap.size + 2, 0, none⟩ (.int .u64 (tn (x0.lo - x1.hi))))) (by intro x hx; obtain ⟨u0, z0⟩ := hx.has 2 0 rfl (by simp); have q0 := hx.soft 2 0 rfl; go_simp; (first | done | rfl)) (fun x hx => (hx.put 2 0 (.int .u64 (tn (x0.lo - x1.hi))) rfl)) ?_
  refine lin_val (i := 10) (v := .bool (((leU (x0.lo - x1.hi) x0.lo) == (geU x1.hi 0#64)))) rfl rfl (by rfl) (by intro x hx; go_simp; (first | done | exact rfl)) ?_
  simp only [List.set_cons_succ, List.set_cons_zero]
  refine lin_done ?_
  intro W1 hx
  replace HS := hid hx
  clear hx
  -- region 2
  go_upto_region 2 with fail
  refine lin_begin (St w [⟨w.heap.size, [some (.int .u64 (tn (x0.lo))), some (.int .u64 (tn (x0.hi)))], 71⟩, ⟨w.heap.size + 1, [some (.int .u64 (tn (x1.lo))), some (.int .u64 (tn (x1.hi)))], 71⟩, ⟨w.heap.size + 2, [some (.int .u64 (tn (x0.lo - x1.hi))), some (.int .u64 0)], 71⟩]) rfl HS.out ?_
  refine lin_val (i := 0) (v := .pointer (some ⟨w.heap.size, 1, none⟩)) rfl rfl (by rfl) (by intro x hx; go_simp; (first | done | exact rfl)) ?_
  simp only [List.set_cons_succ, List.set_cons_zero]
  refine lin_val (i := 1) (v := .int .u64 (tn (x0.hi))) rfl rfl (by rfl) (by intro x hx; have f0 := hx.load 0 1 rfl rfl; go_simp; (first | done | exact rfl)) ?_
  simp only [List.set_cons_succ, List.set_cons_zero]
  refine lin_val (i := 2) (v := .pointer (some ⟨w.heap.size + 1, 0, none⟩)) rfl rfl (by rfl) (by intro x hx; go_simp; (first | done | exact rfl)) ?_
  simp only [List.set_cons_succ, List.set_cons_zero]
  refine lin_val (i := 3) (v := .int .u64 (tn (x1.lo))) rfl rfl (by rfl) (by intro x hx; have f0 := hx.load 1 0 rfl rfl; go_simp; (first | done | exact rfl)) ?_
  simp only [List.set_cons_succ, List.set_cons_zero]
  refine lin_call (i := 4) (f := 116) (args := #[.int .u64 (tn (x0.hi)), .int .u64 (tn (x1.lo))]) (v := .tuple #[.int .u64 (tn (x0.hi - x1.lo)), .bool (((leU (x0.hi - x1.lo) x0.hi) == (geU x1.lo 0#64)))]) (st_ups _ _) rfl rfl (by rfl) (fun x hx => by kernel_rfl) (by intro x hx; exact span_difference_uint64_any x0.hi x1.lo _) ?_
  simp only [List.set_cons_succ, List.set_cons_zero]
  refine lin_val (i := 5) (v := .tuple #[.int .u64 (tn (x0.hi - x1.lo)), .bool (((leU (x0.hi - x1.lo) x0.hi) == (geU x1.lo 0#64)))]) rfl rfl (by rfl) (by intro x hx; go_simp; (first | done | exact rfl)) ?_
  simp only [List.set_cons_succ, List.set_cons_zero]
  refine lin_val (i := 6) (v := .int .u64 (tn (x0.hi - x1.lo))) rfl rfl (by rfl) (by intro x hx; go_simp; (first | done | exact rfl)) ?_
  simp only [List.set_cons_succ, List.set_cons_zero]
  refine lin_val (i := 7) (v := .bool (((leU (x0.hi - x1.lo) x0.hi) == (geU x1.lo 0#64)))) rfl rfl (by rfl) (by intro x hx; go_simp; (first | done | exact rfl)) ?_
  simp only [List.set_cons_succ, List.set_cons_zero]
  refine lin_val (i := 8) (v := .pointer (some ⟨w.heap.size + 2, 1, none⟩)) rfl rfl (by rfl) (by intro x hx; go_simp; (first | done | exact rfl)) ?_
  simp only [List.set_cons_succ, List.set_cons_zero]
  refine lin_store (i := 9) (St w [⟨w.heap.size, [some (.int .u64 (tn (x0.lo))), some (.int .u64 (tn (x0.hi)))], 71⟩, ⟨w.heap.size + 1, [some (.int .u64 (tn (x1.lo))), some (.int .u64 (tn (x1.hi)))], 71⟩, ⟨w.heap.size + 2, [some (.int .u64 (tn (x0.lo - x1.hi))), some (.int .u64 (tn (x0.hi - x1.lo)))], 71⟩]) rfl rfl (by rfl) (fun x => (x.setCell ⟨w.heap.size + 2, 1, none⟩ (.int .u64 (tn (x0.hi - x1.lo))))) (by intro x hx; obtain ⟨u0, z0⟩ := hx.has 2 1 rfl (by simp); have q0 := hx.soft 2 1 rfl; go_simp; (first | done | rfl)) (fun x hx => (hx.put 2 1 (.int .u64 (tn (x0.hi - x1.lo))) rfl)) ?_
  refine lin_val (i := 10) (v := .bool (((leU (x0.hi - x1.lo) x0.hi) == (geU x1.lo 0#64)))) rfl rfl (by rfl) (by intro x hx; go_simp; (first | done | exact rfl)) ?_
  simp only [List.set_cons_succ, List.set_cons_zero]
  refine lin_done ?_
  intro W2 hx
  replace HS := hid hx
  clear hx
  -- region 3
  go_upto_region 3 with fail
  refine lin_begin (St w [⟨w.heap.size, [some (.int .u64 (tn (x0.lo))), some (.int .u64 (tn (x0.hi)))], 71⟩, ⟨w.heap.size + 1, [some (.int .u64 (tn (x1.lo))), some (.int .u64 (tn (x1.hi)))], 71⟩, ⟨w.heap.size + 2, [some (.int .u64 (tn (x0.lo - x1.hi))), some (.int .u64 (tn (x0.hi - x1.lo)))], 71⟩]) rfl HS.out ?_
  refine lin_val (i := 0) (v := .agg #[.int .u64 (tn (x0.lo - x1.hi)), .int .u64 (tn (x0.hi - x1.lo))]) rfl rfl (by rfl) (by intro x hx; have f0 := hx.load 2 0 rfl rfl; have f1 := hx.load 2 1 rfl rfl; go_simp; (first | done | exact rfl)) ?_
  simp only [List.set_cons_succ, List.set_cons_zero]
  refine lin_val (i := 1) (v := .bool (((leU (x0.lo - x1.hi) x0.lo) == (geU x1.hi 0#64)))) rfl rfl (by rfl) (by intro x hx; go_simp; (first | done | exact rfl)) ?_
  simp only [List.set_cons_succ, List.set_cons_zero]
  refine lin_val (i := 2) (v := .bool (((leU (x0.hi - x1.lo) x0.hi) == (geU x1.lo 0#64)))) rfl rfl (by rfl) (by intro x hx; go_simp; (first | done | exact rfl)) ?_
  simp only [List.set_cons_succ, List.set_cons_zero]
  refine lin_store (i := 3) (St w [⟨w.heap.size, [some (.int .u64 (tn (x0.lo))), some (.int .u64 (tn (x0.hi)))], 71⟩, ⟨w.heap.size + 1, [some (.int .u64 (tn (x1.lo))), some (.int .u64 (tn (x1.hi)))], 71⟩, ⟨w.heap.size + 2, [some (.int .u64 (tn (x0.lo - x1.hi))), some (.int .u64 (tn (x0.hi - x1.lo)))], 71⟩]) rfl rfl (by rfl) (fun x => ((x.setCell ⟨w.heap.size + 2, 0, none⟩ (.int .u64 (tn (x0.lo - x1.hi)))).setCell ⟨w.heap.size + 2, 1, none⟩ (.int .u64 (tn (x0.hi - x1.lo))))) (by intro x hx; obtain ⟨u0, z0⟩ := hx.has 2 0 rfl (by simp); have q0 := hx.soft 2 0 rfl; obtain ⟨u1, z1⟩ := hx.has 2 1 rfl (by simp); have q1 := hx.soft 2 1 rfl; go_simp; (first | done | rfl)) (fun x hx => ((hx.put 2 0 (.int .u64 (tn (x0.lo - x1.hi))) rfl).put 2 1 (.int .u64 (tn (x0.hi - x1.lo))) rfl)) ?_
  refine lin_val (i := 4) (v := .bool (((leU (x0.lo - x1.hi) x0.lo) == (geU x1.hi 0#64)))) rfl rfl (by rfl) (by intro x hx; go_simp; (first | done | exact rfl)) ?_
  simp only [List.set_cons_succ, List.set_cons_zero]
  refine lin_val (i := 5) (v := .bool (((leU (x0.hi - x1.lo) x0.hi) == (geU x1.lo 0#64)))) rfl rfl (by rfl) (by intro x hx; go_simp; (first | done | exact rfl)) ?_
  simp only [List.set_cons_succ, List.set_cons_zero]
  refine lin_done ?_
  intro W3 hx
  replace HS := hid hx
  clear hx
  go_wp2
  have r0 := HS.out.load 2 0 rfl rfl
  have r1 := HS.out.load 2 1 rfl rfl
  have HF : span_sub_uint64 x0 x1 = (P.mk (x0.lo - x1.hi) (x0.hi - x1.lo), ((leU (x0.lo - x1.hi) x0.lo) == (geU x1.hi 0#64)), ((leU (x0.hi - x1.lo) x0.hi) == (geU x1.lo 0#64))) := by
    unfold span_sub_uint64
    rfl
  exact bodyPost_ret (v := .tuple #[.agg #[.int .u64 (tn (x0.lo - x1.hi)), .int .u64 (tn (x0.hi - x1.lo))], .bool (((leU (x0.lo - x1.hi) x0.lo) == (geU x1.hi 0#64))), .bool (((leU (x0.hi - x1.lo) x0.hi) == (geU x1.lo 0#64)))]) (by simp [results, Try.results91, go_sem, r0, r1]) rfl ⟨(by first | (rw [HF]; done) | (rw [HF]; rfl)), HS.out.below⟩
def span_Sub (x0 : P) (x1 : P) : P :=
  span_alike ((span_sub_uint64 x0 x1).1) ((span_sub_uint64 x0 x1).2.1) ((span_sub_uint64 x0 x1).2.2)
set_option maxRecDepth 100000 in
set_option maxHeartbeats 1000000 in
theorem span_Sub_any (x0 : P) (x1 : P)  (w : World) :
    Calls Try.prog 27 #[.agg #[.int .u64 (tn (x0.lo)), .int .u64 (tn (x0.hi))], .agg #[.int .u64 (tn (x1.lo)), .int .u64 (tn (x1.hi))]] w fun e w' => e = .returned (.agg #[.int .u64 (tn ((span_Sub x0 x1).lo)), .int .u64 (tn ((span_Sub x0 x1).hi))]) ∧ Below w.heap.size w w' := by
  go_enter Try.func27, Try.ntmps27
  have HS := hid ((((st_nil w).alloc (k := w.heap.size) rfl [.int .u64 (tn (x0.lo)), .int .u64 (tn (x0.hi))] 24).alloc (k := w.heap.size + 1) (by simp) [.int .u64 (tn (x1.lo)), .int .u64 (tn (x1.hi))] 24).alloc (k := w.heap.size + 2) (by simp) [.int .u64 0, .int .u64 0] 24)
  -- region 1
  go_upto_region 1 with fail
  refine up_begin (St w [⟨w.heap.size, [some (.int .u64 (tn (x0.lo))), some (.int .u64 (tn (x0.hi)))], 24⟩, ⟨w.heap.size + 1, [some (.int .u64 (tn (x1.lo))), some (.int .u64 (tn (x1.hi)))], 24⟩, ⟨w.heap.size + 2, [some (.int .u64 0), some (.int .u64 0)], 24⟩]) 13 rfl (by kernel_rfl) (HS.out.drew) ?_
  refine take_val (i := 0) (v := .agg #[.int .u64 (tn (x0.lo)), .int .u64 (tn (x0.hi))]) (st_ups _ _) rfl rfl (by kernel_rfl) (fun _ _ _ h => h) (by rfl) (by intro x hx; have f0 := hx.load 0 0 rfl rfl; have f1 := hx.load 0 1 rfl rfl; go_simp; (first | done | exact rfl)) ?_
  simp only [List.set_cons_succ, List.set_cons_zero]
  refine take_call (i := 1) (f := 83) (args := #[.agg #[.int .u64 (tn (x0.lo)), .int .u64 (tn (x0.hi))]]) (v := .agg #[.int .u64 (tn (x0.lo)), .int .u64 (tn (x0.hi))]) (st_ups _ _) rfl rfl (by kernel_rfl) (fun _ _ _ h => h) (by rfl) (fun x hx => by kernel_rfl) (by intro x hx; exact span_unsigned_any x0 _) ?_
  simp only [List.set_cons_succ, List.set_cons_zero]
  refine take_val (i := 2) (v := .agg #[.int .u64 (tn (x1.lo)), .int .u64 (tn (x1.hi))]) (st_ups _ _) rfl rfl (by kernel_rfl) (fun _ _ _ h => h) (by rfl) (by intro x hx; have f0 := hx.load 1 0 rfl rfl; have f1 := hx.load 1 1 rfl rfl; go_simp; (first | done | exact rfl)) ?_
  simp only [List.set_cons_succ, List.set_cons_zero]
  refine take_call (i := 3) (f := 83) (args := #[.agg #[.int .u64 (tn (x1.lo)), .int .u64 (tn (x1.hi))]]) (v := .agg #[.int .u64 (tn (x1.lo)), .int .u64 (tn (x1.hi))]) (st_ups _ _) rfl rfl (by kernel_rfl) (fun _ _ _ h => h) (by rfl) (fun x hx => by kernel_rfl) (by intro x hx; exact span_unsigned_any x1 _) ?_
  simp only [List.set_cons_succ, List.set_cons_zero]
  refine take_call (i := 4) (f := 91) (args := #[.agg #[.int .u64 (tn (x0.lo)), .int .u64 (tn (x0.hi))], .agg #[.int .u64 (tn (x1.lo)), .int .u64 (tn (x1.hi))]]) (v := .tuple #[.agg #[.int .u64 (tn (((span_sub_uint64 x0 x1).1).lo)), .int .u64 (tn (((span_sub_uint64 x0 x1).1).hi))], .bool ((span_sub_uint64 x0 x1).2.1), .bool ((span_sub_uint64 x0 x1).2.2)]) (st_ups _ _) rfl rfl (by kernel_rfl) (fun _ _ _ h => h) (by rfl) (fun x hx => by kernel_rfl) (by intro x hx; exact span_sub_uint64_any x0 x1 _) ?_
  simp only [List.set_cons_succ, List.set_cons_zero]
  refine take_val (i := 5) (v := .tuple #[.agg #[.int .u64 (tn (((span_sub_uint64 x0 x1).1).lo)), .int .u64 (tn (((span_sub_uint64 x0 x1).1).hi))], .bool ((span_sub_uint64 x0 x1).2.1), .bool ((span_sub_uint64 x0 x1).2.2)]) (st_ups _ _) rfl rfl (by kernel_rfl) (fun _ _ _ h => h) (by rfl) (by intro x hx; go_simp; (first | done | exact rfl)) ?_
  simp only [List.set_cons_succ, List.set_cons_zero]
  refine take_val (i := 6) (v := .agg #[.int .u64 (tn (((span_sub_uint64 x0 x1).1).lo)), .int .u64 (tn (((span_sub_uint64 x0 x1).1).hi))]) (st_ups _ _) rfl rfl (by kernel_rfl) (fun _ _ _ h => h) (by rfl) (by intro x hx; go_simp; (first | done | exact rfl)) ?_
  simp only [List.set_cons_succ, List.set_cons_zero]
  refine take_val (i := 7) (v := .bool ((span_sub_uint64 x0 x1).2.1)) (st_ups _ _) rfl rfl (by kernel_rfl) (fun _ _ _ h => h) (by rfl) (by intro x hx; go_simp; (first | done | exact rfl)) ?_
  simp only [List.set_cons_succ, List.set_cons_zero]
  refine take_val (i := 8) (v := .bool ((span_sub_uint64 x0 x1).2.2)) (st_ups _ _) rfl rfl (by kernel_rfl) (fun _ _ _ h => h) (by rfl) (by intro x hx; go_simp; (first | done | exact rfl)) ?_
  simp only [List.set_cons_succ, List.set_cons_zero]
  refine take_one (i := 9) (by kernel_rfl) (step_new rfl rfl (by rfl) [.int .u64 0, .int .u64 0] 71 (fun k => .pointer (some ⟨k, 0, none⟩)) [none, none] (lessC_no (lessC_no (trivial))) (by intro x hx; go_simp; (first | done | exact rfl)) (fun k1 => ?_))
  simp only [List.set_cons_succ, List.set_cons_zero]
  refine take_one (i := 10) (by kernel_rfl) (step_store (St w [⟨w.heap.size, [some (.int .u64 (tn (x0.lo))), some (.int .u64 (tn (x0.hi)))], 24⟩, ⟨w.heap.size + 1, [some (.int .u64 (tn (x1.lo))), some (.int .u64 (tn (x1.hi)))], 24⟩, ⟨w.heap.size + 2, [some (.int .u64 0), some (.int .u64 0)], 24⟩, ⟨k1, [some (.int .u64 (tn (((span_sub_uint64 x0 x1).1).lo))), some (.int .u64 (tn (((span_sub_uint64 x0 x1).1).hi)))], 71⟩]) (st_ups _ _) (fun x h => h.less (less_cons rfl rfl (lessC_eq (lessC_eq (trivial))) (less_cons rfl rfl (lessC_eq (lessC_eq (trivial))) (less_cons rfl rfl (lessC_eq (lessC_eq (trivial))) (less_cons rfl rfl (lessC_no (lessC_no (trivial))) (trivial)))))) rfl rfl (by rfl) (fun x => ((x.setCell ⟨k1, 0, none⟩ (.int .u64 (tn (((span_sub_uint64 x0 x1).1).lo)))).setCell ⟨k1, 1, none⟩ (.int .u64 (tn (((span_sub_uint64 x0 x1).1).hi))))) (by intro x hx; obtain ⟨u0, z0⟩ := hx.has 3 0 rfl (by simp); have q0 := hx.soft 3 0 rfl; obtain ⟨u1, z1⟩ := hx.has 3 1 rfl (by simp); have q1 := hx.soft 3 1 rfl; go_simp; (first | done | rfl)) (fun x hx => ((hx.put 3 0 (.int .u64 (tn (((span_sub_uint64 x0 x1).1).lo))) rfl).put 3 1 (.int .u64 (tn (((span_sub_uint64 x0 x1).1).hi))) rfl)) ?_)
  refine take_val (i := 11) (v := .bool ((span_sub_uint64 x0 x1).2.1)) (st_ups _ _) rfl rfl (by kernel_rfl) (fun _ _ _ h => h) (by rfl) (by intro x hx; go_simp; (first | done | exact rfl)) ?_
  simp only [List.set_cons_succ, List.set_cons_zero]
  refine take_val (i := 12) (v := .bool ((span_sub_uint64 x0 x1).2.2)) (st_ups _ _) rfl rfl (by kernel_rfl) (fun _ _ _ h => h) (by rfl) (by intro x hx; go_simp; (first | done | exact rfl)) ?_
  simp only [List.set_cons_succ, List.set_cons_zero]
  refine take_done (by kernel_rfl) ?_ _
  intro W1 hx
  replace HS := hid hx
  clear hx
  -- region 2
  go_upto_region 2 with fail
  refine lin_begin (St w [⟨w.heap.size, [some (.int .u64 (tn (x0.lo))), some (.int .u64 (tn (x0.hi)))], 24⟩, ⟨w.heap.size + 1, [some (.int .u64 (tn (x1.lo))), some (.int .u64 (tn (x1.hi)))], 24⟩, ⟨w.heap.size + 2, [some (.int .u64 0), some (.int .u64 0)], 24⟩, ⟨k1, [some (.int .u64 (tn (((span_sub_uint64 x0 x1).1).lo))), some (.int .u64 (tn (((span_sub_uint64 x0 x1).1).hi)))], 71⟩]) rfl HS.out ?_
  refine lin_val (i := 0) (v := .agg #[.int .u64 (tn (((span_sub_uint64 x0 x1).1).lo)), .int .u64 (tn (((span_sub_uint64 x0 x1).1).hi))]) rfl rfl (by rfl) (by intro x hx; have f0 := hx.load 3 0 rfl rfl; have f1 := hx.load 3 1 rfl rfl; go_simp; (first | done | exact rfl)) ?_
  simp only [List.set_cons_succ, List.set_cons_zero]
  refine lin_val (i := 1) (v := .bool ((span_sub_uint64 x0 x1).2.1)) rfl rfl (by rfl) (by intro x hx; go_simp; (first | done | exact rfl)) ?_
  simp only [List.set_cons_succ, List.set_cons_zero]
  refine lin_val (i := 2) (v := .bool ((span_sub_uint64 x0 x1).2.2)) rfl rfl (by rfl) (by intro x hx; go_simp; (first | done | exact rfl)) ?_
  simp only [List.set_cons_succ, List.set_cons_zero]
  refine lin_call (i := 3) (f := 89) (args := #[.agg #[.int .u64 (tn (((span_sub_uint64 x0 x1).1).lo)), .int .u64 (tn (((span_sub_uint64 x0 x1).1).hi))], .bool ((span_sub_uint64 x0 x1).2.1), .bool ((span_sub_uint64 x0 x1).2.2)]) (v := .agg #[.int .u64 (tn ((span_alike ((span_sub_uint64 x0 x1).1) ((span_sub_uint64 x0 x1).2.1) ((span_sub_uint64 x0 x1).2.2)).lo)), .int .u64 (tn ((span_alike ((span_sub_uint64 x0 x1).1) ((span_sub_uint64 x0 x1).2.1) ((span_sub_uint64 x0 x1).2.2)).hi))]) (st_ups _ _) rfl rfl (by rfl) (fun x hx => by kernel_rfl) (by intro x hx; exact span_alike_any ((span_sub_uint64 x0 x1).1) ((span_sub_uint64 x0 x1).2.1) ((span_sub_uint64 x0 x1).2.2) _) ?_
  simp only [List.set_cons_succ, List.set_cons_zero]
  refine lin_store (i := 4) (St w [⟨w.heap.size, [some (.int .u64 (tn (x0.lo))), some (.int .u64 (tn (x0.hi)))], 24⟩, ⟨w.heap.size + 1, [some (.int .u64 (tn (x1.lo))), some (.int .u64 (tn (x1.hi)))], 24⟩, ⟨w.heap.size + 2, [some (.int .u64 (tn ((span_alike ((span_sub_uint64 x0 x1).1) ((span_sub_uint64 x0 x1).2.1) ((span_sub_uint64 x0 x1).2.2)).lo))), some (.int .u64 (tn ((span_alike ((span_sub_uint64 x0 x1).1) ((span_sub_uint64 x0 x1).2.1) ((span_sub_uint64 x0 x1).2.2)).hi)))], 24⟩, ⟨k1, [some (.int .u64 (tn (((span_sub_uint64 x0 x1).1).lo))), some (.int .u64 (tn (((span_sub_uint64 x0 x1).1).hi)))], 71⟩]) rfl rfl (by rfl) (fun x => ((x.setCell ⟨w.heap.size + 2, 0, none⟩ (.int .u64 (tn ((span_alike ((span_sub_uint64 x0 x1).1) ((span_sub_uint64 x0 x1).2.1) ((span_sub_uint64 x0 x1).2.2)).lo)))).setCell ⟨w.heap.size + 2, 1, none⟩ (.int .u64 (tn ((span_alike ((span_sub_uint64 x0 x1).1) ((span_sub_uint64 x0 x1).2.1) ((span_sub_uint64 x0 x1).2.2)).hi))))) (by intro x hx; obtain ⟨u0, z0⟩ := hx.has 2 0 rfl (by simp); have q0 := hx.soft 2 0 rfl; obtain ⟨u1, z1⟩ := hx.has 2 1 rfl (by simp); have q1 := hx.soft 2 1 rfl; go_simp; (first | done | rfl)) (fun x hx => ((hx.put 2 0 (.int .u64 (tn ((span_alike ((span_sub_uint64 x0 x1).1) ((span_sub_uint64 x0 x1).2.1) ((span_sub_uint64 x0 x1).2.2)).lo))) rfl).put 2 1 (.int .u64 (tn ((span_alike ((span_sub_uint64 x0 x1).1) ((span_sub_uint64 x0 x1).2.1) ((span_sub_uint64 x0 x1).2.2)).hi))) rfl)) ?_
  refine lin_done ?_
  intro W2 hx
  replace HS := hid hx
  clear hx
  go_wp2
  have r0 := HS.out.load 2 0 rfl rfl
  have r1 := HS.out.load 2 1 rfl rfl
  have HF : span_Sub x0 x1 = span_alike ((span_sub_uint64 x0 x1).1) ((span_sub_uint64 x0 x1).2.1) ((span_sub_uint64 x0 x1).2.2) := by
    unfold span_Sub
    rfl
  exact bodyPost_ret (v := .agg #[.int .u64 (tn ((span_alike ((span_sub_uint64 x0 x1).1) ((span_sub_uint64 x0 x1).2.1) ((span_sub_uint64 x0 x1).2.2)).lo)), .int .u64 (tn ((span_alike ((span_sub_uint64 x0 x1).1) ((span_sub_uint64 x0 x1).2.1) ((span_sub_uint64 x0 x1).2.2)).hi))]) (by simp [results, Try.results27, go_sem, r0, r1]) rfl ⟨(by first | (rw [HF]; done) | (rw [HF]; rfl)), HS.out.below⟩
end Go.Proofs.Ytoojdndfjfmemaa.Sp
