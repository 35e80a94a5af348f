/-
  The contracts of span's calls: signed ones.
-/
import Derived.Deep.DeepCutAuto
import Derived.Test.YtoojdndfjfmemaaSpA
namespace Go.Proofs.Ytoojdndfjfmemaa.Sp
open Go.RowKit Go.Proofs.Ytoojdndfjfmemaa.Num Go.Proofs.Ytoojdndfjfmemaa.Up
set_option maxRecDepth 100000 in
set_option maxHeartbeats 1000000 in
theorem span_only_int64_any (x0 : BitVec 64)  (w : World) :
    Calls Try.prog 102 #[.int .i64 (ti (x0))] w fun e w' => e = .returned (.agg #[.int .i64 (ti (x0)), .int .i64 (ti (x0))]) ∧ Below w.heap.size w w' := by
  go_enter Try.func102, Try.ntmps102
  have HS := hid ((st_nil w).alloc (k := w.heap.size) rfl [.int .i64 0, .int .i64 0] 92)
  -- region 1
  go_upto_region 1 with fail
  refine lin_begin (St w [⟨w.heap.size, [some (.int .i64 0), some (.int .i64 0)], 92⟩]) rfl HS.out ?_
  refine lin_val (i := 0) (v := .int .i64 (ti (x0))) rfl rfl (by rfl) (by intro x hx; go_simp; (first | done | exact rfl)) ?_
  simp only [List.set_cons_succ, List.set_cons_zero]
  refine lin_val (i := 1) (v := .int .i64 (ti (x0))) rfl rfl (by rfl) (by intro x hx; go_simp; (first | done | exact rfl)) ?_
  simp only [List.set_cons_succ, List.set_cons_zero]
  refine lin_val (i := 2) (v := .agg #[.int .i64 (ti (x0)), .int .i64 (ti (x0))]) rfl rfl (by rfl) (by intro x hx; go_simp; (first | done | exact rfl)) ?_
  simp only [List.set_cons_succ, List.set_cons_zero]
  refine lin_store (i := 3) (St w [⟨w.heap.size, [some (.int .i64 (ti (x0))), some (.int .i64 (ti (x0)))], 92⟩]) rfl rfl (by rfl) (fun x => ((x.setCell ⟨w.heap.size, 0, none⟩ (.int .i64 (ti (x0)))).setCell ⟨w.heap.size, 1, none⟩ (.int .i64 (ti (x0))))) (by intro x hx; obtain ⟨u0, z0⟩ := hx.has 0 0 rfl (by simp); have q0 := hx.soft 0 0 rfl; obtain ⟨u1, z1⟩ := hx.has 0 1 rfl (by simp); have q1 := hx.soft 0 1 rfl; go_simp; (first | done | rfl)) (fun x hx => ((hx.put 0 0 (.int .i64 (ti (x0))) rfl).put 0 1 (.int .i64 (ti (x0))) rfl)) ?_
  refine lin_done ?_
  intro W1 hx
  replace HS := hid hx
  clear hx
  go_wp2
  have r0 := HS.out.load 0 0 rfl rfl
  have r1 := HS.out.load 0 1 rfl rfl
  exact bodyPost_ret (v := .agg #[.int .i64 (ti (x0)), .int .i64 (ti (x0))]) (by simp [results, Try.results102, go_sem, r0, r1]) rfl ⟨rfl, HS.out.below⟩
set_option maxRecDepth 100000 in
set_option maxHeartbeats 1000000 in
theorem span_toSigned_any (x0 : P)  (w : World) :
    Calls Try.prog 101 #[.agg #[.int .i64 (ti (x0.lo)), .int .i64 (ti (x0.hi))]] w fun e w' => e = .returned (.agg #[.int .i64 (ti (x0.lo)), .int .i64 (ti (x0.hi))]) ∧ Below w.heap.size w w' := by
  go_enter Try.func101, Try.ntmps101
  have HS := hid (((st_nil w).alloc (k := w.heap.size) rfl [.int .i64 (ti (x0.lo)), .int .i64 (ti (x0.hi))] 92).alloc (k := w.heap.size + 1) (by simp) [.int .i64 0, .int .i64 0] 38)
  -- region 1
  go_upto_region 1 with fail
  refine lin_begin (St w [⟨w.heap.size, [some (.int .i64 (ti (x0.lo))), some (.int .i64 (ti (x0.hi)))], 92⟩, ⟨w.heap.size + 1, [some (.int .i64 0), some (.int .i64 0)], 38⟩]) rfl HS.out ?_
  refine lin_val (i := 0) (v := .pointer (some ⟨w.heap.size, 0, none⟩)) rfl rfl (by rfl) (by intro x hx; go_simp; (first | done | exact rfl)) ?_
  simp only [List.set_cons_succ, List.set_cons_zero]
  refine lin_val (i := 1) (v := .int .i64 (ti (x0.lo))) rfl rfl (by rfl) (by intro x hx; have f0 := hx.load 0 0 rfl rfl; go_simp; (first | done | exact rfl)) ?_
  simp only [List.set_cons_succ, List.set_cons_zero]
  refine lin_val (i := 2) (v := .pointer (some ⟨w.heap.size, 1, none⟩)) rfl rfl (by rfl) (by intro x hx; go_simp; (first | done | exact rfl)) ?_
  simp only [List.set_cons_succ, List.set_cons_zero]
  refine lin_val (i := 3) (v := .int .i64 (ti (x0.hi))) rfl rfl (by rfl) (by intro x hx; have f0 := hx.load 0 1 rfl rfl; go_simp; (first | done | exact rfl)) ?_
  simp only [List.set_cons_succ, List.set_cons_zero]
  refine lin_val (i := 4) (v := .agg #[.int .i64 (ti (x0.lo)), .int .i64 (ti (x0.hi))]) rfl rfl (by rfl) (by intro x hx; go_simp; (first | done | exact rfl)) ?_
  simp only [List.set_cons_succ, List.set_cons_zero]
  refine lin_store (i := 5) (St w [⟨w.heap.size, [some (.int .i64 (ti (x0.lo))), some (.int .i64 (ti (x0.hi)))], 92⟩, ⟨w.heap.size + 1, [some (.int .i64 (ti (x0.lo))), some (.int .i64 (ti (x0.hi)))], 38⟩]) rfl rfl (by rfl) (fun x => ((x.setCell ⟨w.heap.size + 1, 0, none⟩ (.int .i64 (ti (x0.lo)))).setCell ⟨w.heap.size + 1, 1, none⟩ (.int .i64 (ti (x0.hi))))) (by intro x hx; obtain ⟨u0, z0⟩ := hx.has 1 0 rfl (by simp); have q0 := hx.soft 1 0 rfl; obtain ⟨u1, z1⟩ := hx.has 1 1 rfl (by simp); have q1 := hx.soft 1 1 rfl; go_simp; (first | done | rfl)) (fun x hx => ((hx.put 1 0 (.int .i64 (ti (x0.lo))) rfl).put 1 1 (.int .i64 (ti (x0.hi))) rfl)) ?_
  refine lin_done ?_
  intro W1 hx
  replace HS := hid hx
  clear hx
  go_wp2
  have r0 := HS.out.load 1 0 rfl rfl
  have r1 := HS.out.load 1 1 rfl rfl
  exact bodyPost_ret (v := .agg #[.int .i64 (ti (x0.lo)), .int .i64 (ti (x0.hi))]) (by simp [results, Try.results101, go_sem, r0, r1]) rfl ⟨rfl, HS.out.below⟩
set_option maxRecDepth 100000 in
set_option maxHeartbeats 1000000 in
theorem span_Sof_any (x0 : BitVec 64)  (w : World) :
    Calls Try.prog 50 #[.int .i64 (ti (x0))] w fun e w' => e = .returned (.agg #[.int .i64 (ti (x0)), .int .i64 (ti (x0))]) ∧ Below w.heap.size w w' := by
  go_enter Try.func50, Try.ntmps50
  have HS := hid ((st_nil w).alloc (k := w.heap.size) rfl [.int .i64 0, .int .i64 0] 38)
  -- region 1
  go_upto_region 1 with fail
  refine lin_begin (St w [⟨w.heap.size, [some (.int .i64 0), some (.int .i64 0)], 38⟩]) rfl HS.out ?_
  refine lin_val (i := 0) (v := .int .i64 (ti (x0))) rfl rfl (by rfl) (by intro x hx; go_simp; (first | done | exact rfl)) ?_
  simp only [List.set_cons_succ, List.set_cons_zero]
  refine lin_call (i := 1) (f := 102) (args := #[.int .i64 (ti (x0))]) (v := .agg #[.int .i64 (ti (x0)), .int .i64 (ti (x0))]) (st_ups _ _) rfl rfl (by rfl) (fun x hx => by kernel_rfl) (by intro x hx; exact span_only_int64_any x0 _) ?_
  simp only [List.set_cons_succ, List.set_cons_zero]
  refine lin_call (i := 2) (f := 101) (args := #[.agg #[.int .i64 (ti (x0)), .int .i64 (ti (x0))]]) (v := .agg #[.int .i64 (ti (x0)), .int .i64 (ti (x0))]) (st_ups _ _) rfl rfl (by rfl) (fun x hx => by kernel_rfl) (by intro x hx; exact span_toSigned_any (P.mk x0 x0) _) ?_
  simp only [List.set_cons_succ, List.set_cons_zero]
  refine lin_store (i := 3) (St w [⟨w.heap.size, [some (.int .i64 (ti (x0))), some (.int .i64 (ti (x0)))], 38⟩]) rfl rfl (by rfl) (fun x => ((x.setCell ⟨w.heap.size, 0, none⟩ (.int .i64 (ti (x0)))).setCell ⟨w.heap.size, 1, none⟩ (.int .i64 (ti (x0))))) (by intro x hx; obtain ⟨u0, z0⟩ := hx.has 0 0 rfl (by simp); have q0 := hx.soft 0 0 rfl; obtain ⟨u1, z1⟩ := hx.has 0 1 rfl (by simp); have q1 := hx.soft 0 1 rfl; go_simp; (first | done | rfl)) (fun x hx => ((hx.put 0 0 (.int .i64 (ti (x0))) rfl).put 0 1 (.int .i64 (ti (x0))) rfl)) ?_
  refine lin_done ?_
  intro W1 hx
  replace HS := hid hx
  clear hx
  go_wp2
  have r0 := HS.out.load 0 0 rfl rfl
  have r1 := HS.out.load 0 1 rfl rfl
  exact bodyPost_ret (v := .agg #[.int .i64 (ti (x0)), .int .i64 (ti (x0))]) (by simp [results, Try.results50, go_sem, r0, r1]) rfl ⟨rfl, HS.out.below⟩
set_option maxRecDepth 100000 in
set_option maxHeartbeats 1000000 in
theorem span_Sall_any   (w : World) :
    Calls Try.prog 52 #[] w fun e w' => e = .returned (.agg #[.int .i64 (ti (9223372036854775808#64)), .int .i64 (ti (9223372036854775807#64))]) ∧ Below w.heap.size w w' := by
  go_enter Try.func52, Try.ntmps52
  have HS := hid ((st_nil w).alloc (k := w.heap.size) rfl [.int .i64 0, .int .i64 0] 38)
  -- region 1
  go_upto_region 1 with fail
  refine lin_begin (St w [⟨w.heap.size, [some (.int .i64 0), some (.int .i64 0)], 38⟩]) rfl HS.out ?_
  refine lin_val (i := 0) (v := .agg #[.int .i64 (-9223372036854775808), .int .i64 9223372036854775807]) rfl rfl (by rfl) (by intro x hx; go_simp; (first | done | exact rfl)) ?_
  simp only [List.set_cons_succ, List.set_cons_zero]
  refine lin_store (i := 1) (St w [⟨w.heap.size, [some (.int .i64 (-9223372036854775808)), some (.int .i64 9223372036854775807)], 38⟩]) rfl rfl (by rfl) (fun x => ((x.setCell ⟨w.heap.size, 0, none⟩ (.int .i64 (-9223372036854775808))).setCell ⟨w.heap.size, 1, none⟩ (.int .i64 9223372036854775807))) (by intro x hx; obtain ⟨u0, z0⟩ := hx.has 0 0 rfl (by simp); have q0 := hx.soft 0 0 rfl; obtain ⟨u1, z1⟩ := hx.has 0 1 rfl (by simp); have q1 := hx.soft 0 1 rfl; go_simp; (first | done | rfl)) (fun x hx => ((hx.put 0 0 (.int .i64 (-9223372036854775808)) rfl).put 0 1 (.int .i64 9223372036854775807) rfl)) ?_
  refine lin_done ?_
  intro W1 hx
  replace HS := hid hx
  clear hx
  go_wp2
  have r0 := HS.out.load 0 0 rfl rfl
  have r1 := HS.out.load 0 1 rfl rfl
  exact bodyPost_ret (v := .agg #[.int .i64 (-9223372036854775808), .int .i64 9223372036854775807]) (by simp [results, Try.results52, go_sem, r0, r1]) rfl ⟨rfl, HS.out.below⟩
set_option maxRecDepth 100000 in
set_option maxHeartbeats 1000000 in
theorem span_signed_any (x0 : P)  (w : World) :
    Calls Try.prog 100 #[.agg #[.int .i64 (ti (x0.lo)), .int .i64 (ti (x0.hi))]] w fun e w' => e = .returned (.agg #[.int .i64 (ti (x0.lo)), .int .i64 (ti (x0.hi))]) ∧ Below w.heap.size w w' := by
  go_enter Try.func100, Try.ntmps100
  have HS := hid (((st_nil w).alloc (k := w.heap.size) rfl [.int .i64 (ti (x0.lo)), .int .i64 (ti (x0.hi))] 38).alloc (k := w.heap.size + 1) (by simp) [.int .i64 0, .int .i64 0] 92)
  -- region 1
  go_upto_region 1 with fail
  refine lin_begin (St w [⟨w.heap.size, [some (.int .i64 (ti (x0.lo))), some (.int .i64 (ti (x0.hi)))], 38⟩, ⟨w.heap.size + 1, [some (.int .i64 0), some (.int .i64 0)], 92⟩]) rfl HS.out ?_
  refine lin_val (i := 0) (v := .pointer (some ⟨w.heap.size, 0, none⟩)) rfl rfl (by rfl) (by intro x hx; go_simp; (first | done | exact rfl)) ?_
  simp only [List.set_cons_succ, List.set_cons_zero]
  refine lin_val (i := 1) (v := .int .i64 (ti (x0.lo))) rfl rfl (by rfl) (by intro x hx; have f0 := hx.load 0 0 rfl rfl; go_simp; (first | done | exact rfl)) ?_
  simp only [List.set_cons_succ, List.set_cons_zero]
  refine lin_val (i := 2) (v := .pointer (some ⟨w.heap.size, 1, none⟩)) rfl rfl (by rfl) (by intro x hx; go_simp; (first | done | exact rfl)) ?_
  simp only [List.set_cons_succ, List.set_cons_zero]
  refine lin_val (i := 3) (v := .int .i64 (ti (x0.hi))) rfl rfl (by rfl) (by intro x hx; have f0 := hx.load 0 1 rfl rfl; go_simp; (first | done | exact rfl)) ?_
  simp only [List.set_cons_succ, List.set_cons_zero]
  refine lin_val (i := 4) (v := .agg #[.int .i64 (ti (x0.lo)), .int .i64 (ti (x0.hi))]) rfl rfl (by rfl) (by intro x hx; go_simp; (first | done | exact rfl)) ?_
  simp only [List.set_cons_succ, List.set_cons_zero]
  refine lin_store (i := 5) (St w [⟨w.heap.size, [some (.int .i64 (ti (x0.lo))), some (.int .i64 (ti (x0.hi)))], 38⟩, ⟨w.heap.size + 1, [some (.int .i64 (ti (x0.lo))), some (.int .i64 (ti (x0.hi)))], 92⟩]) rfl rfl (by rfl) (fun x => ((x.setCell ⟨w.heap.size + 1, 0, none⟩ (.int .i64 (ti (x0.lo)))).setCell ⟨w.heap.size + 1, 1, none⟩ (.int .i64 (ti (x0.hi))))) (by intro x hx; obtain ⟨u0, z0⟩ := hx.has 1 0 rfl (by simp); have q0 := hx.soft 1 0 rfl; obtain ⟨u1, z1⟩ := hx.has 1 1 rfl (by simp); have q1 := hx.soft 1 1 rfl; go_simp; (first | done | rfl)) (fun x hx => ((hx.put 1 0 (.int .i64 (ti (x0.lo))) rfl).put 1 1 (.int .i64 (ti (x0.hi))) rfl)) ?_
  refine lin_done ?_
  intro W1 hx
  replace HS := hid hx
  clear hx
  go_wp2
  have r0 := HS.out.load 1 0 rfl rfl
  have r1 := HS.out.load 1 1 rfl rfl
  exact bodyPost_ret (v := .agg #[.int .i64 (ti (x0.lo)), .int .i64 (ti (x0.hi))]) (by simp [results, Try.results100, go_sem, r0, r1]) rfl ⟨rfl, HS.out.below⟩
def span_within_int64 (x0 : P) (x1 : P) : Bool :=
  bif leI x1.lo x0.lo then (leI x0.hi x1.hi) else (false)
set_option maxRecDepth 100000 in
set_option maxHeartbeats 1000000 in
theorem span_within_int64_any (x0 : P) (x1 : P)  (w : World) :
    Calls Try.prog 103 #[.agg #[.int .i64 (ti (x0.lo)), .int .i64 (ti (x0.hi))], .agg #[.int .i64 (ti (x1.lo)), .int .i64 (ti (x1.hi))]] w fun e w' => e = .returned (.bool (span_within_int64 x0 x1)) ∧ Below w.heap.size w w' := by
  go_enter Try.func103, Try.ntmps103
  have HS := hid (((st_nil w).alloc (k := w.heap.size) rfl [.int .i64 (ti (x0.lo)), .int .i64 (ti (x0.hi))] 92).alloc (k := w.heap.size + 1) (by simp) [.int .i64 (ti (x1.lo)), .int .i64 (ti (x1.hi))] 92)
  -- region 1
  go_upto_region 1 with fail
  refine lin_begin (St w [⟨w.heap.size, [some (.int .i64 (ti (x0.lo))), some (.int .i64 (ti (x0.hi)))], 92⟩, ⟨w.heap.size + 1, [some (.int .i64 (ti (x1.lo))), some (.int .i64 (ti (x1.hi)))], 92⟩]) rfl HS.out ?_
  refine lin_val (i := 0) (v := .pointer (some ⟨w.heap.size + 1, 0, none⟩)) rfl rfl (by rfl) (by intro x hx; go_simp; (first | done | exact rfl)) ?_
  simp only [List.set_cons_succ, List.set_cons_zero]
  refine lin_val (i := 1) (v := .int .i64 (ti (x1.lo))) rfl rfl (by rfl) (by intro x hx; have f0 := hx.load 1 0 rfl rfl; go_simp; (first | done | exact rfl)) ?_
  simp only [List.set_cons_succ, List.set_cons_zero]
  refine lin_val (i := 2) (v := .pointer (some ⟨w.heap.size, 0, none⟩)) rfl rfl (by rfl) (by intro x hx; go_simp; (first | done | exact rfl)) ?_
  simp only [List.set_cons_succ, List.set_cons_zero]
  refine lin_val (i := 3) (v := .int .i64 (ti (x0.lo))) rfl rfl (by rfl) (by intro x hx; have f0 := hx.load 0 0 rfl rfl; go_simp; (first | done | exact rfl)) ?_
  simp only [List.set_cons_succ, List.set_cons_zero]
  refine lin_val (i := 4) (v := .bool (leI x1.lo x0.lo)) rfl rfl (by rfl) (by intro x hx; go_simp; (first | done | exact leIT x1.lo x0.lo | exact congrArg _ (leIT x1.lo x0.lo) | (rw [leIT x1.lo x0.lo]; done) | (rw [leIT x1.lo x0.lo]; rfl))) ?_
  simp only [List.set_cons_succ, List.set_cons_zero]
  refine lin_val (i := 5) (v := .bool (leI x1.lo x0.lo)) rfl rfl (by rfl) (by intro x hx; go_simp; (first | done | exact rfl)) ?_
  simp only [List.set_cons_succ, List.set_cons_zero]
  cases h1 : (leI x1.lo x0.lo)
  · replace h1 := hid h1
    refine lin_no (i := 6) rfl rfl (by kernel_rfl) ?_
    simp only [List.set_cons_succ, List.set_cons_zero]
    refine lin_no (i := 7) rfl rfl (by kernel_rfl) ?_
    simp only [List.set_cons_succ, List.set_cons_zero]
    refine lin_no (i := 8) rfl rfl (by kernel_rfl) ?_
    simp only [List.set_cons_succ, List.set_cons_zero]
    refine lin_no (i := 9) rfl rfl (by kernel_rfl) ?_
    simp only [List.set_cons_succ, List.set_cons_zero]
    refine lin_no (i := 10) rfl rfl (by kernel_rfl) ?_
    simp only [List.set_cons_succ, List.set_cons_zero]
    refine lin_val (i := 11) (v := .bool false) rfl rfl (by rfl) (by intro x hx; go_simp; (first | done | exact rfl)) ?_
    simp only [List.set_cons_succ, List.set_cons_zero]
    refine lin_val (i := 12) (v := .bool false) rfl rfl (by rfl) (by intro x hx; go_simp; (first | done | exact rfl)) ?_
    simp only [List.set_cons_succ, List.set_cons_zero]
    refine lin_done ?_
    intro W1 hx
    replace HS := hid hx
    clear hx
    go_wp2
    have HF : span_within_int64 x0 x1 = false := by
      unfold span_within_int64
      rw [cond_f h1.out]
    exact bodyPost_ret (v := .bool false) (by simp [results, Try.results103, go_sem]) rfl ⟨(by first | (rw [HF]; done) | (rw [HF]; rfl)), HS.out.below⟩
  · replace h1 := hid h1
    refine lin_val (i := 6) (v := .pointer (some ⟨w.heap.size, 1, none⟩)) rfl rfl (by rfl) (by intro x hx; go_simp; (first | done | exact rfl)) ?_
    simp only [List.set_cons_succ, List.set_cons_zero]
    refine lin_val (i := 7) (v := .int .i64 (ti (x0.hi))) rfl rfl (by rfl) (by intro x hx; have f0 := hx.load 0 1 rfl rfl; go_simp; (first | done | exact rfl)) ?_
    simp only [List.set_cons_succ, List.set_cons_zero]
    refine lin_val (i := 8) (v := .pointer (some ⟨w.heap.size + 1, 1, none⟩)) rfl rfl (by rfl) (by intro x hx; go_simp; (first | done | exact rfl)) ?_
    simp only [List.set_cons_succ, List.set_cons_zero]
    refine lin_val (i := 9) (v := .int .i64 (ti (x1.hi))) rfl rfl (by rfl) (by intro x hx; have f0 := hx.load 1 1 rfl rfl; go_simp; (first | done | exact rfl)) ?_
    simp only [List.set_cons_succ, List.set_cons_zero]
    refine lin_val (i := 10) (v := .bool (leI x0.hi x1.hi)) rfl rfl (by rfl) (by intro x hx; go_simp; (first | done | exact leIT x0.hi x1.hi | exact congrArg _ (leIT x0.hi x1.hi) | (rw [leIT x0.hi x1.hi]; done) | (rw [leIT x0.hi x1.hi]; rfl))) ?_
    simp only [List.set_cons_succ, List.set_cons_zero]
    refine lin_val (i := 11) (v := .bool (leI x0.hi x1.hi)) rfl rfl (by rfl) (by intro x hx; go_simp; (first | done | exact rfl)) ?_
    simp only [List.set_cons_succ, List.set_cons_zero]
    refine lin_val (i := 12) (v := .bool (leI x0.hi x1.hi)) rfl rfl (by rfl) (by intro x hx; go_simp; (first | done | exact rfl)) ?_
    simp only [List.set_cons_succ, List.set_cons_zero]
    refine lin_done ?_
    intro W1 hx
    replace HS := hid hx
    clear hx
    go_wp2
    have HF : span_within_int64 x0 x1 = leI x0.hi x1.hi := by
      unfold span_within_int64
      rw [cond_t h1.out]
    exact bodyPost_ret (v := .bool (leI x0.hi x1.hi)) (by simp [results, Try.results103, go_sem]) rfl ⟨(by first | (rw [HF]; done) | (rw [HF]; rfl)), HS.out.below⟩
set_option maxRecDepth 100000 in
set_option maxHeartbeats 1000000 in
theorem span_Sin_any (x0 : P) (x1 : BitVec 64)  (w : World) :
    Calls Try.prog 54 #[.agg #[.int .i64 (ti (x0.lo)), .int .i64 (ti (x0.hi))], .int .i64 (ti (x1))] w fun e w' => e = .returned (.bool ((span_within_int64 (P.mk x1 x1) x0))) ∧ Below w.heap.size w w' := by
  go_enter Try.func54, Try.ntmps54
  have HS := hid ((st_nil w).alloc (k := w.heap.size) rfl [.int .i64 (ti (x0.lo)), .int .i64 (ti (x0.hi))] 38)
  -- region 1
  go_upto_region 1 with fail
  refine up_begin (St w [⟨w.heap.size, [some (.int .i64 (ti (x0.lo))), some (.int .i64 (ti (x0.hi)))], 38⟩]) 6 rfl (by kernel_rfl) (HS.out.drew) ?_
  refine take_val (i := 0) (v := .int .i64 (ti (x1))) (st_ups _ _) rfl rfl (by kernel_rfl) (fun _ _ _ h => h) (by rfl) (by intro x hx; go_simp; (first | done | exact rfl)) ?_
  simp only [List.set_cons_succ, List.set_cons_zero]
  refine take_call (i := 1) (f := 102) (args := #[.int .i64 (ti (x1))]) (v := .agg #[.int .i64 (ti (x1)), .int .i64 (ti (x1))]) (st_ups _ _) rfl rfl (by kernel_rfl) (fun _ _ _ h => h) (by rfl) (fun x hx => by kernel_rfl) (by intro x hx; exact span_only_int64_any x1 _) ?_
  simp only [List.set_cons_succ, List.set_cons_zero]
  refine take_val (i := 2) (v := .agg #[.int .i64 (ti (x0.lo)), .int .i64 (ti (x0.hi))]) (st_ups _ _) rfl rfl (by kernel_rfl) (fun _ _ _ h => h) (by rfl) (by intro x hx; have f0 := hx.load 0 0 rfl rfl; have f1 := hx.load 0 1 rfl rfl; go_simp; (first | done | exact rfl)) ?_
  simp only [List.set_cons_succ, List.set_cons_zero]
  refine take_call (i := 3) (f := 100) (args := #[.agg #[.int .i64 (ti (x0.lo)), .int .i64 (ti (x0.hi))]]) (v := .agg #[.int .i64 (ti (x0.lo)), .int .i64 (ti (x0.hi))]) (st_ups _ _) rfl rfl (by kernel_rfl) (fun _ _ _ h => h) (by rfl) (fun x hx => by kernel_rfl) (by intro x hx; exact span_signed_any x0 _) ?_
  simp only [List.set_cons_succ, List.set_cons_zero]
  refine take_call (i := 4) (f := 103) (args := #[.agg #[.int .i64 (ti (x1)), .int .i64 (ti (x1))], .agg #[.int .i64 (ti (x0.lo)), .int .i64 (ti (x0.hi))]]) (v := .bool (span_within_int64 (P.mk x1 x1) x0)) (st_ups _ _) rfl rfl (by kernel_rfl) (fun _ _ _ h => h) (by rfl) (fun x hx => by kernel_rfl) (by intro x hx; exact span_within_int64_any (P.mk x1 x1) x0 _) ?_
  simp only [List.set_cons_succ, List.set_cons_zero]
  refine take_val (i := 5) (v := .bool (span_within_int64 (P.mk x1 x1) x0)) (st_ups _ _) rfl rfl (by kernel_rfl) (fun _ _ _ h => h) (by rfl) (by intro x hx; go_simp; (first | done | exact rfl)) ?_
  simp only [List.set_cons_succ, List.set_cons_zero]
  refine take_done (by kernel_rfl) ?_ _
  intro W1 hx
  replace HS := hid hx
  clear hx
  go_wp2
  exact bodyPost_ret (v := .bool (span_within_int64 (P.mk x1 x1) x0)) (by simp [results, Try.results54, go_sem]) rfl ⟨rfl, HS.out.below⟩
set_option maxRecDepth 100000 in
set_option maxHeartbeats 1000000 in
theorem span_Swithin_any (x0 : P) (x1 : P)  (w : World) :
    Calls Try.prog 56 #[.agg #[.int .i64 (ti (x0.lo)), .int .i64 (ti (x0.hi))], .agg #[.int .i64 (ti (x1.lo)), .int .i64 (ti (x1.hi))]] w fun e w' => e = .returned (.bool ((span_within_int64 x0 x1))) ∧ Below w.heap.size w w' := by
  go_enter Try.func56, Try.ntmps56
  have HS := hid (((st_nil w).alloc (k := w.heap.size) rfl [.int .i64 (ti (x0.lo)), .int .i64 (ti (x0.hi))] 38).alloc (k := w.heap.size + 1) (by simp) [.int .i64 (ti (x1.lo)), .int .i64 (ti (x1.hi))] 38)
  -- region 1
  go_upto_region 1 with fail
  refine up_begin (St w [⟨w.heap.size, [some (.int .i64 (ti (x0.lo))), some (.int .i64 (ti (x0.hi)))], 38⟩, ⟨w.heap.size + 1, [some (.int .i64 (ti (x1.lo))), some (.int .i64 (ti (x1.hi)))], 38⟩]) 6 rfl (by kernel_rfl) (HS.out.drew) ?_
  refine take_val (i := 0) (v := .agg #[.int .i64 (ti (x0.lo)), .int .i64 (ti (x0.hi))]) (st_ups _ _) rfl rfl (by kernel_rfl) (fun _ _ _ h => h) (by rfl) (by intro x hx; have f0 := hx.load 0 0 rfl rfl; have f1 := hx.load 0 1 rfl rfl; go_simp; (first | done | exact rfl)) ?_
  simp only [List.set_cons_succ, List.set_cons_zero]
  refine take_call (i := 1) (f := 100) (args := #[.agg #[.int .i64 (ti (x0.lo)), .int .i64 (ti (x0.hi))]]) (v := .agg #[.int .i64 (ti (x0.lo)), .int .i64 (ti (x0.hi))]) (st_ups _ _) rfl rfl (by kernel_rfl) (fun _ _ _ h => h) (by rfl) (fun x hx => by kernel_rfl) (by intro x hx; exact span_signed_any x0 _) ?_
  simp only [List.set_cons_succ, List.set_cons_zero]
  refine take_val (i := 2) (v := .agg #[.int .i64 (ti (x1.lo)), .int .i64 (ti (x1.hi))]) (st_ups _ _) rfl rfl (by kernel_rfl) (fun _ _ _ h => h) (by rfl) (by intro x hx; have f0 := hx.load 1 0 rfl rfl; have f1 := hx.load 1 1 rfl rfl; go_simp; (first | done | exact rfl)) ?_
  simp only [List.set_cons_succ, List.set_cons_zero]
  refine take_call (i := 3) (f := 100) (args := #[.agg #[.int .i64 (ti (x1.lo)), .int .i64 (ti (x1.hi))]]) (v := .agg #[.int .i64 (ti (x1.lo)), .int .i64 (ti (x1.hi))]) (st_ups _ _) rfl rfl (by kernel_rfl) (fun _ _ _ h => h) (by rfl) (fun x hx => by kernel_rfl) (by intro x hx; exact span_signed_any x1 _) ?_
  simp only [List.set_cons_succ, List.set_cons_zero]
  refine take_call (i := 4) (f := 103) (args := #[.agg #[.int .i64 (ti (x0.lo)), .int .i64 (ti (x0.hi))], .agg #[.int .i64 (ti (x1.lo)), .int .i64 (ti (x1.hi))]]) (v := .bool (span_within_int64 x0 x1)) (st_ups _ _) rfl rfl (by kernel_rfl) (fun _ _ _ h => h) (by rfl) (fun x hx => by kernel_rfl) (by intro x hx; exact span_within_int64_any x0 x1 _) ?_
  simp only [List.set_cons_succ, List.set_cons_zero]
  refine take_val (i := 5) (v := .bool (span_within_int64 x0 x1)) (st_ups _ _) rfl rfl (by kernel_rfl) (fun _ _ _ h => h) (by rfl) (by intro x hx; go_simp; (first | done | exact rfl)) ?_
  simp only [List.set_cons_succ, List.set_cons_zero]
  refine take_done (by kernel_rfl) ?_ _
  intro W1 hx
  replace HS := hid hx
  clear hx
  go_wp2
  exact bodyPost_ret (v := .bool (span_within_int64 x0 x1)) (by simp [results, Try.results56, go_sem]) rfl ⟨rfl, HS.out.below⟩
set_option maxRecDepth 100000 in
set_option maxHeartbeats 1000000 in
theorem span_join_int64_any (x0 : P) (x1 : P)  (w : World) :
    Calls Try.prog 104 #[.agg #[.int .i64 (ti (x0.lo)), .int .i64 (ti (x0.hi))], .agg #[.int .i64 (ti (x1.lo)), .int .i64 (ti (x1.hi))]] w fun e w' => e = .returned (.agg #[.int .i64 (ti (minI x0.lo x1.lo)), .int .i64 (ti (maxI x0.hi x1.hi))]) ∧ Below w.heap.size w w' := by
  go_enter Try.func104, Try.ntmps104
  have HS := hid ((((st_nil w).alloc (k := w.heap.size) rfl [.int .i64 (ti (x0.lo)), .int .i64 (ti (x0.hi))] 92).alloc (k := w.heap.size + 1) (by simp) [.int .i64 (ti (x1.lo)), .int .i64 (ti (x1.hi))] 92).alloc (k := w.heap.size + 2) (by simp) [.int .i64 0, .int .i64 0] 92)
  -- region 1
  go_upto_region 1 with fail
  refine lin_begin (St w [⟨w.heap.size, [some (.int .i64 (ti (x0.lo))), some (.int .i64 (ti (x0.hi)))], 92⟩, ⟨w.heap.size + 1, [some (.int .i64 (ti (x1.lo))), some (.int .i64 (ti (x1.hi)))], 92⟩, ⟨w.heap.size + 2, [some (.int .i64 0), some (.int .i64 0)], 92⟩]) rfl HS.out ?_
  refine lin_val (i := 0) (v := .pointer (some ⟨w.heap.size, 0, none⟩)) rfl rfl (by rfl) (by intro x hx; go_simp; (first | done | exact rfl)) ?_
  simp only [List.set_cons_succ, List.set_cons_zero]
  refine lin_val (i := 1) (v := .int .i64 (ti (x0.lo))) rfl rfl (by rfl) (by intro x hx; have f0 := hx.load 0 0 rfl rfl; go_simp; (first | done | exact rfl)) ?_
  simp only [List.set_cons_succ, List.set_cons_zero]
  refine lin_val (i := 2) (v := .pointer (some ⟨w.heap.size + 1, 0, none⟩)) rfl rfl (by rfl) (by intro x hx; go_simp; (first | done | exact rfl)) ?_
  simp only [List.set_cons_succ, List.set_cons_zero]
  refine lin_val (i := 3) (v := .int .i64 (ti (x1.lo))) rfl rfl (by rfl) (by intro x hx; have f0 := hx.load 1 0 rfl rfl; go_simp; (first | done | exact rfl)) ?_
  simp only [List.set_cons_succ, List.set_cons_zero]
  refine lin_val (i := 4) (v := .int .i64 (ti (minI x0.lo x1.lo))) rfl rfl (by rfl) (by intro x hx; go_simp; (first | done | exact minIT x0.lo x1.lo)) ?_
  simp only [List.set_cons_succ, List.set_cons_zero]
  refine lin_val (i := 5) (v := .pointer (some ⟨w.heap.size, 1, none⟩)) rfl rfl (by rfl) (by intro x hx; go_simp; (first | done | exact rfl)) ?_
  simp only [List.set_cons_succ, List.set_cons_zero]
  refine lin_val (i := 6) (v := .int .i64 (ti (x0.hi))) rfl rfl (by rfl) (by intro x hx; have f0 := hx.load 0 1 rfl rfl; go_simp; (first | done | exact rfl)) ?_
  simp only [List.set_cons_succ, List.set_cons_zero]
  refine lin_val (i := 7) (v := .pointer (some ⟨w.heap.size + 1, 1, none⟩)) rfl rfl (by rfl) (by intro x hx; go_simp; (first | done | exact rfl)) ?_
  simp only [List.set_cons_succ, List.set_cons_zero]
  refine lin_val (i := 8) (v := .int .i64 (ti (x1.hi))) rfl rfl (by rfl) (by intro x hx; have f0 := hx.load 1 1 rfl rfl; go_simp; (first | done | exact rfl)) ?_
  simp only [List.set_cons_succ, List.set_cons_zero]
  refine lin_val (i := 9) (v := .int .i64 (ti (maxI x0.hi x1.hi))) rfl rfl (by rfl) (by intro x hx; go_simp; (first | done | exact maxIT x0.hi x1.hi)) ?_
  simp only [List.set_cons_succ, List.set_cons_zero]
  refine lin_val (i := 10) (v := .agg #[.int .i64 (ti (minI x0.lo x1.lo)), .int .i64 (ti (maxI x0.hi x1.hi))]) rfl rfl (by rfl) (by intro x hx; go_simp; (first | done | exact rfl)) ?_
  simp only [List.set_cons_succ, List.set_cons_zero]
  refine lin_store (i := 11) (St w [⟨w.heap.size, [some (.int .i64 (ti (x0.lo))), some (.int .i64 (ti (x0.hi)))], 92⟩, ⟨w.heap.size + 1, [some (.int .i64 (ti (x1.lo))), some (.int .i64 (ti (x1.hi)))], 92⟩, ⟨w.heap.size + 2, [some (.int .i64 (ti (minI x0.lo x1.lo))), some (.int .i64 (ti (maxI x0.hi x1.hi)))], 92⟩]) rfl rfl (by rfl) (fun x => ((x.setCell ⟨w.heap.size + 2, 0, none⟩ (.int .i64 (ti (minI x0.lo x1.lo)))).setCell ⟨w.heap.size + 2, 1, none⟩ (.int .i64 (ti (maxI x0.hi x1.hi))))) (by intro x hx; obtain ⟨u0, z0⟩ := hx.has 2 0 rfl (by simp); have q0 := hx.soft 2 0 rfl; obtain ⟨u1, z1⟩ := hx.has 2 1 rfl (by simp); have q1 := hx.soft 2 1 rfl; go_simp; (first | done | rfl)) (fun x hx => ((hx.put 2 0 (.int .i64 (ti (minI x0.lo x1.lo))) rfl).put 2 1 (.int .i64 (ti (maxI x0.hi x1.hi))) rfl)) ?_
  refine lin_done ?_
  intro W1 hx
  replace HS := hid hx
  clear hx
  go_wp2
  have r0 := HS.out.load 2 0 rfl rfl
  have r1 := HS.out.load 2 1 rfl rfl
  exact bodyPost_ret (v := .agg #[.int .i64 (ti (minI x0.lo x1.lo)), .int .i64 (ti (maxI x0.hi x1.hi))]) (by simp [results, Try.results104, go_sem, r0, r1]) rfl ⟨rfl, HS.out.below⟩
set_option maxRecDepth 100000 in
set_option maxHeartbeats 1000000 in
theorem span_Sjoin_any (x0 : P) (x1 : P)  (w : World) :
    Calls Try.prog 58 #[.agg #[.int .i64 (ti (x0.lo)), .int .i64 (ti (x0.hi))], .agg #[.int .i64 (ti (x1.lo)), .int .i64 (ti (x1.hi))]] w fun e w' => e = .returned (.agg #[.int .i64 (ti (minI x0.lo x1.lo)), .int .i64 (ti (maxI x0.hi x1.hi))]) ∧ Below w.heap.size w w' := by
  go_enter Try.func58, Try.ntmps58
  have HS := hid ((((st_nil w).alloc (k := w.heap.size) rfl [.int .i64 (ti (x0.lo)), .int .i64 (ti (x0.hi))] 38).alloc (k := w.heap.size + 1) (by simp) [.int .i64 (ti (x1.lo)), .int .i64 (ti (x1.hi))] 38).alloc (k := w.heap.size + 2) (by simp) [.int .i64 0, .int .i64 0] 38)
  -- region 1
  go_upto_region 1 with fail
  refine up_begin (St w [⟨w.heap.size, [some (.int .i64 (ti (x0.lo))), some (.int .i64 (ti (x0.hi)))], 38⟩, ⟨w.heap.size + 1, [some (.int .i64 (ti (x1.lo))), some (.int .i64 (ti (x1.hi)))], 38⟩, ⟨w.heap.size + 2, [none, none], 38⟩]) 7 rfl (by kernel_rfl) (St.less HS.out.drew (less_cons rfl rfl (lessC_eq (lessC_eq (trivial))) (less_cons rfl rfl (lessC_eq (lessC_eq (trivial))) (less_cons rfl rfl (lessC_no (lessC_no (trivial))) (trivial))))) ?_
  refine take_val (i := 0) (v := .agg #[.int .i64 (ti (x0.lo)), .int .i64 (ti (x0.hi))]) (st_ups _ _) rfl rfl (by kernel_rfl) (fun _ _ _ h => h) (by rfl) (by intro x hx; have f0 := hx.load 0 0 rfl rfl; have f1 := hx.load 0 1 rfl rfl; go_simp; (first | done | exact rfl)) ?_
  simp only [List.set_cons_succ, List.set_cons_zero]
  refine take_call (i := 1) (f := 100) (args := #[.agg #[.int .i64 (ti (x0.lo)), .int .i64 (ti (x0.hi))]]) (v := .agg #[.int .i64 (ti (x0.lo)), .int .i64 (ti (x0.hi))]) (st_ups _ _) rfl rfl (by kernel_rfl) (fun _ _ _ h => h) (by rfl) (fun x hx => by kernel_rfl) (by intro x hx; exact span_signed_any x0 _) ?_
  simp only [List.set_cons_succ, List.set_cons_zero]
  refine take_val (i := 2) (v := .agg #[.int .i64 (ti (x1.lo)), .int .i64 (ti (x1.hi))]) (st_ups _ _) rfl rfl (by kernel_rfl) (fun _ _ _ h => h) (by rfl) (by intro x hx; have f0 := hx.load 1 0 rfl rfl; have f1 := hx.load 1 1 rfl rfl; go_simp; (first | done | exact rfl)) ?_
  simp only [List.set_cons_succ, List.set_cons_zero]
  refine take_call (i := 3) (f := 100) (args := #[.agg #[.int .i64 (ti (x1.lo)), .int .i64 (ti (x1.hi))]]) (v := .agg #[.int .i64 (ti (x1.lo)), .int .i64 (ti (x1.hi))]) (st_ups _ _) rfl rfl (by kernel_rfl) (fun _ _ _ h => h) (by rfl) (fun x hx => by kernel_rfl) (by intro x hx; exact span_signed_any x1 _) ?_
  simp only [List.set_cons_succ, List.set_cons_zero]
  refine take_call (i := 4) (f := 104) (args := #[.agg #[.int .i64 (ti (x0.lo)), .int .i64 (ti (x0.hi))], .agg #[.int .i64 (ti (x1.lo)), .int .i64 (ti (x1.hi))]]) (v := .agg #[.int .i64 (ti (minI x0.lo x1.lo)), .int .i64 (ti (maxI x0.hi x1.hi))]) (st_ups _ _) rfl rfl (by kernel_rfl) (fun _ _ _ h => h) (by rfl) (fun x hx => by kernel_rfl) (by intro x hx; exact span_join_int64_any x0 x1 _) ?_
  simp only [List.set_cons_succ, List.set_cons_zero]
  refine take_call (i := 5) (f := 101) (args := #[.agg #[.int .i64 (ti (minI x0.lo x1.lo)), .int .i64 (ti (maxI x0.hi x1.hi))]]) (v := .agg #[.int .i64 (ti (minI x0.lo x1.lo)), .int .i64 (ti (maxI x0.hi x1.hi))]) (st_ups _ _) rfl rfl (by kernel_rfl) (fun _ _ _ h => h) (by rfl) (fun x hx => by kernel_rfl) (by intro x hx; exact span_toSigned_any (P.mk (minI x0.lo x1.lo) (maxI x0.hi x1.hi)) _) ?_
  simp only [List.set_cons_succ, List.set_cons_zero]
  refine take_one (i := 6) (by kernel_rfl) (step_store (St w [⟨w.heap.size, [some (.int .i64 (ti (x0.lo))), some (.int .i64 (ti (x0.hi)))], 38⟩, ⟨w.heap.size + 1, [some (.int .i64 (ti (x1.lo))), some (.int .i64 (ti (x1.hi)))], 38⟩, ⟨w.heap.size + 2, [some (.int .i64 (ti (minI x0.lo x1.lo))), some (.int .i64 (ti (maxI x0.hi x1.hi)))], 38⟩]) (st_ups _ _) (fun x h => h.less (less_cons rfl rfl (lessC_eq (lessC_eq (trivial))) (less_cons rfl rfl (lessC_eq (lessC_eq (trivial))) (less_cons rfl rfl (lessC_no (lessC_no (trivial))) (trivial))))) rfl rfl (by rfl) (fun x => ((x.setCell ⟨w.heap.size + 2, 0, none⟩ (.int .i64 (ti (minI x0.lo x1.lo)))).setCell ⟨w.heap.size + 2, 1, none⟩ (.int .i64 (ti (maxI x0.hi x1.hi))))) (by intro x hx; obtain ⟨u0, z0⟩ := hx.has 2 0 rfl (by simp); have q0 := hx.soft 2 0 rfl; obtain ⟨u1, z1⟩ := hx.has 2 1 rfl (by simp); have q1 := hx.soft 2 1 rfl; go_simp; (first | done | rfl)) (fun x hx => ((hx.put 2 0 (.int .i64 (ti (minI x0.lo x1.lo))) rfl).put 2 1 (.int .i64 (ti (maxI x0.hi x1.hi))) rfl)) ?_)
  refine take_done (by kernel_rfl) ?_ _
  intro W1 hx
  replace HS := hid hx
  clear hx
  go_wp2
  have r0 := HS.out.load 2 0 rfl rfl
  have r1 := HS.out.load 2 1 rfl rfl
  exact bodyPost_ret (v := .agg #[.int .i64 (ti (minI x0.lo x1.lo)), .int .i64 (ti (maxI x0.hi x1.hi))]) (by simp [results, Try.results58, go_sem, r0, r1]) rfl ⟨rfl, HS.out.below⟩
def span_meet_int64 (x0 : P) (x1 : P) : P × Bool :=
  bif gtI (maxI x0.lo x1.lo) (minI x0.hi x1.hi) then ((P.mk 0#64 0#64, false)) else ((P.mk (maxI x0.lo x1.lo) (minI x0.hi x1.hi), true))
set_option maxRecDepth 100000 in
set_option maxHeartbeats 1000000 in
theorem span_meet_int64_any (x0 : P) (x1 : P)  (w : World) :
    Calls Try.prog 99 #[.agg #[.int .i64 (ti (x0.lo)), .int .i64 (ti (x0.hi))], .agg #[.int .i64 (ti (x1.lo)), .int .i64 (ti (x1.hi))]] w fun e w' => e = .returned (.tuple #[.agg #[.int .i64 (ti (((span_meet_int64 x0 x1).1).lo)), .int .i64 (ti (((span_meet_int64 x0 x1).1).hi))], .bool ((span_meet_int64 x0 x1).2)]) ∧ Below w.heap.size w w' := by
  go_enter Try.func99, Try.ntmps99
  have HS := hid ((((st_nil w).alloc (k := w.heap.size) rfl [.int .i64 (ti (x0.lo)), .int .i64 (ti (x0.hi))] 92).alloc (k := w.heap.size + 1) (by simp) [.int .i64 (ti (x1.lo)), .int .i64 (ti (x1.hi))] 92).alloc (k := w.heap.size + 2) (by simp) [.int .i64 0, .int .i64 0] 92)
  -- region 1
  go_upto_region 1 with fail
  refine lin_begin (St w [⟨w.heap.size, [some (.int .i64 (ti (x0.lo))), some (.int .i64 (ti (x0.hi)))], 92⟩, ⟨w.heap.size + 1, [some (.int .i64 (ti (x1.lo))), some (.int .i64 (ti (x1.hi)))], 92⟩, ⟨w.heap.size + 2, [some (.int .i64 0), some (.int .i64 0)], 92⟩]) rfl HS.out ?_
  refine lin_val (i := 0) (v := .pointer (some ⟨w.heap.size, 0, none⟩)) rfl rfl (by rfl) (by intro x hx; go_simp; (first | done | exact rfl)) ?_
  simp only [List.set_cons_succ, List.set_cons_zero]
  refine lin_val (i := 1) (v := .int .i64 (ti (x0.lo))) rfl rfl (by rfl) (by intro x hx; have f0 := hx.load 0 0 rfl rfl; go_simp; (first | done | exact rfl)) ?_
  simp only [List.set_cons_succ, List.set_cons_zero]
  refine lin_val (i := 2) (v := .pointer (some ⟨w.heap.size + 1, 0, none⟩)) rfl rfl (by rfl) (by intro x hx; go_simp; (first | done | exact rfl)) ?_
  simp only [List.set_cons_succ, List.set_cons_zero]
  refine lin_val (i := 3) (v := .int .i64 (ti (x1.lo))) rfl rfl (by rfl) (by intro x hx; have f0 := hx.load 1 0 rfl rfl; go_simp; (first | done | exact rfl)) ?_
  simp only [List.set_cons_succ, List.set_cons_zero]
  refine lin_val (i := 4) (v := .int .i64 (ti (maxI x0.lo x1.lo))) rfl rfl (by rfl) (by intro x hx; go_simp; (first | done | exact maxIT x0.lo x1.lo)) ?_
  simp only [List.set_cons_succ, List.set_cons_zero]
  refine lin_val (i := 5) (v := .pointer (some ⟨w.heap.size, 1, none⟩)) rfl rfl (by rfl) (by intro x hx; go_simp; (first | done | exact rfl)) ?_
  simp only [List.set_cons_succ, List.set_cons_zero]
  refine lin_val (i := 6) (v := .int .i64 (ti (x0.hi))) rfl rfl (by rfl) (by intro x hx; have f0 := hx.load 0 1 rfl rfl; go_simp; (first | done | exact rfl)) ?_
  simp only [List.set_cons_succ, List.set_cons_zero]
  refine lin_val (i := 7) (v := .pointer (some ⟨w.heap.size + 1, 1, none⟩)) rfl rfl (by rfl) (by intro x hx; go_simp; (first | done | exact rfl)) ?_
  simp only [List.set_cons_succ, List.set_cons_zero]
  refine lin_val (i := 8) (v := .int .i64 (ti (x1.hi))) rfl rfl (by rfl) (by intro x hx; have f0 := hx.load 1 1 rfl rfl; go_simp; (first | done | exact rfl)) ?_
  simp only [List.set_cons_succ, List.set_cons_zero]
  refine lin_val (i := 9) (v := .int .i64 (ti (minI x0.hi x1.hi))) rfl rfl (by rfl) (by intro x hx; go_simp; (first | done | exact minIT x0.hi x1.hi)) ?_
  simp only [List.set_cons_succ, List.set_cons_zero]
  refine lin_val (i := 10) (v := .agg #[.int .i64 (ti (maxI x0.lo x1.lo)), .int .i64 (ti (minI x0.hi x1.hi))]) rfl rfl (by rfl) (by intro x hx; go_simp; (first | done | exact rfl)) ?_
  simp only [List.set_cons_succ, List.set_cons_zero]
  refine lin_new (i := 11) rfl rfl (by rfl) [.int .i64 0, .int .i64 0] 92 (fun k => .pointer (some ⟨k, 0, none⟩)) [some (.int .i64 0), some (.int .i64 0)] (lessC_eq (lessC_eq (trivial))) (by intro x hx; go_simp; (first | done | exact rfl)) (fun k1 => ?_)
  simp only [List.set_cons_succ, List.set_cons_zero]
  refine lin_store (i := 12) (St w [⟨w.heap.size, [some (.int .i64 (ti (x0.lo))), some (.int .i64 (ti (x0.hi)))], 92⟩, ⟨w.heap.size + 1, [some (.int .i64 (ti (x1.lo))), some (.int .i64 (ti (x1.hi)))], 92⟩, ⟨w.heap.size + 2, [some (.int .i64 0), some (.int .i64 0)], 92⟩, ⟨k1, [some (.int .i64 (ti (maxI x0.lo x1.lo))), some (.int .i64 (ti (minI x0.hi x1.hi)))], 92⟩]) rfl rfl (by rfl) (fun x => ((x.setCell ⟨k1, 0, none⟩ (.int .i64 (ti (maxI x0.lo x1.lo)))).setCell ⟨k1, 1, none⟩ (.int .i64 (ti (minI x0.hi x1.hi))))) (by intro x hx; obtain ⟨u0, z0⟩ := hx.has 3 0 rfl (by simp); have q0 := hx.soft 3 0 rfl; obtain ⟨u1, z1⟩ := hx.has 3 1 rfl (by simp); have q1 := hx.soft 3 1 rfl; go_simp; (first | done | rfl)) (fun x hx => ((hx.put 3 0 (.int .i64 (ti (maxI x0.lo x1.lo))) rfl).put 3 1 (.int .i64 (ti (minI x0.hi x1.hi))) rfl)) ?_
  refine lin_done ?_
  intro W1 hx
  replace HS := hid hx
  clear hx
  -- region 2
  go_upto_region 2 with fail
  refine lin_begin (St w [⟨w.heap.size, [some (.int .i64 (ti (x0.lo))), some (.int .i64 (ti (x0.hi)))], 92⟩, ⟨w.heap.size + 1, [some (.int .i64 (ti (x1.lo))), some (.int .i64 (ti (x1.hi)))], 92⟩, ⟨w.heap.size + 2, [some (.int .i64 0), some (.int .i64 0)], 92⟩, ⟨k1, [some (.int .i64 (ti (maxI x0.lo x1.lo))), some (.int .i64 (ti (minI x0.hi x1.hi)))], 92⟩]) rfl HS.out ?_
  refine lin_val (i := 0) (v := .pointer (some ⟨k1, 0, none⟩)) rfl rfl (by rfl) (by intro x hx; go_simp; (first | done | exact rfl)) ?_
  simp only [List.set_cons_succ, List.set_cons_zero]
  refine lin_val (i := 1) (v := .int .i64 (ti (maxI x0.lo x1.lo))) rfl rfl (by rfl) (by intro x hx; have f0 := hx.load 3 0 rfl rfl; go_simp; (first | done | exact rfl)) ?_
  simp only [List.set_cons_succ, List.set_cons_zero]
  refine lin_val (i := 2) (v := .pointer (some ⟨k1, 1, none⟩)) rfl rfl (by rfl) (by intro x hx; go_simp; (first | done | exact rfl)) ?_
  simp only [List.set_cons_succ, List.set_cons_zero]
  refine lin_val (i := 3) (v := .int .i64 (ti (minI x0.hi x1.hi))) rfl rfl (by rfl) (by intro x hx; have f0 := hx.load 3 1 rfl rfl; go_simp; (first | done | exact rfl)) ?_
  simp only [List.set_cons_succ, List.set_cons_zero]
  refine lin_val (i := 4) (v := .bool (gtI (maxI x0.lo x1.lo) (minI x0.hi x1.hi))) rfl rfl (by rfl) (by intro x hx; go_simp; (first | done | exact gtIT (maxI x0.lo x1.lo) (minI x0.hi x1.hi) | exact congrArg _ (gtIT (maxI x0.lo x1.lo) (minI x0.hi x1.hi)) | (rw [gtIT (maxI x0.lo x1.lo) (minI x0.hi x1.hi)]; done) | (rw [gtIT (maxI x0.lo x1.lo) (minI x0.hi x1.hi)]; rfl))) ?_
  simp only [List.set_cons_succ, List.set_cons_zero]
  refine lin_done ?_
  intro W2 hx
  replace HS := hid hx
  clear hx
  cases h1 : (gtI (maxI x0.lo x1.lo) (minI x0.hi x1.hi))
  · replace h1 := hid h1
    -- region 4
    go_upto_region 4 with fail
    refine lin_begin (St w [⟨w.heap.size, [some (.int .i64 (ti (x0.lo))), some (.int .i64 (ti (x0.hi)))], 92⟩, ⟨w.heap.size + 1, [some (.int .i64 (ti (x1.lo))), some (.int .i64 (ti (x1.hi)))], 92⟩, ⟨w.heap.size + 2, [some (.int .i64 0), some (.int .i64 0)], 92⟩, ⟨k1, [some (.int .i64 (ti (maxI x0.lo x1.lo))), some (.int .i64 (ti (minI x0.hi x1.hi)))], 92⟩]) rfl HS.out ?_
    refine lin_val (i := 0) (v := .agg #[.int .i64 (ti (maxI x0.lo x1.lo)), .int .i64 (ti (minI x0.hi x1.hi))]) rfl rfl (by rfl) (by intro x hx; have f0 := hx.load 3 0 rfl rfl; have f1 := hx.load 3 1 rfl rfl; go_simp; (first | done | exact rfl)) ?_
    simp only [List.set_cons_succ, List.set_cons_zero]
    refine lin_store (i := 1) (St w [⟨w.heap.size, [some (.int .i64 (ti (x0.lo))), some (.int .i64 (ti (x0.hi)))], 92⟩, ⟨w.heap.size + 1, [some (.int .i64 (ti (x1.lo))), some (.int .i64 (ti (x1.hi)))], 92⟩, ⟨w.heap.size + 2, [some (.int .i64 (ti (maxI x0.lo x1.lo))), some (.int .i64 (ti (minI x0.hi x1.hi)))], 92⟩, ⟨k1, [some (.int .i64 (ti (maxI x0.lo x1.lo))), some (.int .i64 (ti (minI x0.hi x1.hi)))], 92⟩]) rfl rfl (by rfl) (fun x => ((x.setCell ⟨w.heap.size + 2, 0, none⟩ (.int .i64 (ti (maxI x0.lo x1.lo)))).setCell ⟨w.heap.size + 2, 1, none⟩ (.int .i64 (ti (minI x0.hi x1.hi))))) (by intro x hx; obtain ⟨u0, z0⟩ := hx.has 2 0 rfl (by simp); have q0 := hx.soft 2 0 rfl; obtain ⟨u1, z1⟩ := hx.has 2 1 rfl (by simp); have q1 := hx.soft 2 1 rfl; go_simp; (first | done | rfl)) (fun x hx => ((hx.put 2 0 (.int .i64 (ti (maxI x0.lo x1.lo))) rfl).put 2 1 (.int .i64 (ti (minI x0.hi x1.hi))) rfl)) ?_
    refine lin_val (i := 2) (v := .bool true) rfl rfl (by rfl) (by intro x hx; go_simp; (first | done | exact rfl)) ?_
    simp only [List.set_cons_succ, List.set_cons_zero]
    refine lin_done ?_
    intro W3 hx
    replace HS := hid hx
    clear hx
    go_wp2
    have r0 := HS.out.load 2 0 rfl rfl
    have r1 := HS.out.load 2 1 rfl rfl
    have HF : span_meet_int64 x0 x1 = (P.mk (maxI x0.lo x1.lo) (minI x0.hi x1.hi), true) := by
      unfold span_meet_int64
      rw [cond_f h1.out]
    exact bodyPost_ret (v := .tuple #[.agg #[.int .i64 (ti (maxI x0.lo x1.lo)), .int .i64 (ti (minI x0.hi x1.hi))], .bool true]) (by simp [results, Try.results99, go_sem, r0, r1]) rfl ⟨(by first | (rw [HF]; done) | (rw [HF]; rfl)), HS.out.below⟩
  · replace h1 := hid h1
    -- region 3
    go_upto_region 3 with fail
    refine lin_begin (St w [⟨w.heap.size, [some (.int .i64 (ti (x0.lo))), some (.int .i64 (ti (x0.hi)))], 92⟩, ⟨w.heap.size + 1, [some (.int .i64 (ti (x1.lo))), some (.int .i64 (ti (x1.hi)))], 92⟩, ⟨w.heap.size + 2, [some (.int .i64 0), some (.int .i64 0)], 92⟩, ⟨k1, [some (.int .i64 (ti (maxI x0.lo x1.lo))), some (.int .i64 (ti (minI x0.hi x1.hi)))], 92⟩]) rfl HS.out ?_
    refine lin_val (i := 0) (v := .agg #[.int .i64 0, .int .i64 0]) rfl rfl (by rfl) (by intro x hx; go_simp; (first | done | exact rfl)) ?_
    simp only [List.set_cons_succ, List.set_cons_zero]
    refine lin_store (i := 1) (St w [⟨w.heap.size, [some (.int .i64 (ti (x0.lo))), some (.int .i64 (ti (x0.hi)))], 92⟩, ⟨w.heap.size + 1, [some (.int .i64 (ti (x1.lo))), some (.int .i64 (ti (x1.hi)))], 92⟩, ⟨w.heap.size + 2, [some (.int .i64 0), some (.int .i64 0)], 92⟩, ⟨k1, [some (.int .i64 (ti (maxI x0.lo x1.lo))), some (.int .i64 (ti (minI x0.hi x1.hi)))], 92⟩]) rfl rfl (by rfl) (fun x => ((x.setCell ⟨w.heap.size + 2, 0, none⟩ (.int .i64 0)).setCell ⟨w.heap.size + 2, 1, none⟩ (.int .i64 0))) (by intro x hx; obtain ⟨u0, z0⟩ := hx.has 2 0 rfl (by simp); have q0 := hx.soft 2 0 rfl; obtain ⟨u1, z1⟩ := hx.has 2 1 rfl (by simp); have q1 := hx.soft 2 1 rfl; go_simp; (first | done | rfl)) (fun x hx => ((hx.put 2 0 (.int .i64 0) rfl).put 2 1 (.int .i64 0) rfl)) ?_
    refine lin_val (i := 2) (v := .bool false) rfl rfl (by rfl) (by intro x hx; go_simp; (first | done | exact rfl)) ?_
    simp only [List.set_cons_succ, List.set_cons_zero]
    refine lin_done ?_
    intro W3 hx
    replace HS := hid hx
    clear hx
    go_wp2
    have r0 := HS.out.load 2 0 rfl rfl
    have r1 := HS.out.load 2 1 rfl rfl
    have HF : span_meet_int64 x0 x1 = (P.mk 0#64 0#64, false) := by
      unfold span_meet_int64
      rw [cond_t h1.out]
    exact bodyPost_ret (v := .tuple #[.agg #[.int .i64 0, .int .i64 0], .bool false]) (by simp [results, Try.results99, go_sem, r0, r1]) rfl ⟨(by first | (rw [HF]; done) | (rw [HF]; rfl)), HS.out.below⟩
set_option maxRecDepth 100000 in
set_option maxHeartbeats 1000000 in
theorem span_Smeet_any (x0 : P) (x1 : P)  (w : World) :
    Calls Try.prog 48 #[.agg #[.int .i64 (ti (x0.lo)), .int .i64 (ti (x0.hi))], .agg #[.int .i64 (ti (x1.lo)), .int .i64 (ti (x1.hi))]] w fun e w' => e = .returned (.tuple #[.agg #[.int .i64 (ti (((span_meet_int64 x0 x1).1).lo)), .int .i64 (ti (((span_meet_int64 x0 x1).1).hi))], .bool ((span_meet_int64 x0 x1).2)]) ∧ Below w.heap.size w w' := by
  go_enter Try.func48, Try.ntmps48
  have HS := hid ((((st_nil w).alloc (k := w.heap.size) rfl [.int .i64 (ti (x0.lo)), .int .i64 (ti (x0.hi))] 38).alloc (k := w.heap.size + 1) (by simp) [.int .i64 (ti (x1.lo)), .int .i64 (ti (x1.hi))] 38).alloc (k := w.heap.size + 2) (by simp) [.int .i64 0, .int .i64 0] 38)
  -- region 1
  go_upto_region 1 with fail
  refine up_begin (St w [⟨w.heap.size, [some (.int .i64 (ti (x0.lo))), some (.int .i64 (ti (x0.hi)))], 38⟩, ⟨w.heap.size + 1, [some (.int .i64 (ti (x1.lo))), some (.int .i64 (ti (x1.hi)))], 38⟩, ⟨w.heap.size + 2, [some (.int .i64 0), some (.int .i64 0)], 38⟩]) 11 rfl (by kernel_rfl) (HS.out.drew) ?_
  refine take_val (i := 0) (v := .agg #[.int .i64 (ti (x0.lo)), .int .i64 (ti (x0.hi))]) (st_ups _ _) rfl rfl (by kernel_rfl) (fun _ _ _ h => h) (by rfl) (by intro x hx; have f0 := hx.load 0 0 rfl rfl; have f1 := hx.load 0 1 rfl rfl; go_simp; (first | done | exact rfl)) ?_
  simp only [List.set_cons_succ, List.set_cons_zero]
  refine take_call (i := 1) (f := 100) (args := #[.agg #[.int .i64 (ti (x0.lo)), .int .i64 (ti (x0.hi))]]) (v := .agg #[.int .i64 (ti (x0.lo)), .int .i64 (ti (x0.hi))]) (st_ups _ _) rfl rfl (by kernel_rfl) (fun _ _ _ h => h) (by rfl) (fun x hx => by kernel_rfl) (by intro x hx; exact span_signed_any x0 _) ?_
  simp only [List.set_cons_succ, List.set_cons_zero]
  refine take_val (i := 2) (v := .agg #[.int .i64 (ti (x1.lo)), .int .i64 (ti (x1.hi))]) (st_ups _ _) rfl rfl (by kernel_rfl) (fun _ _ _ h => h) (by rfl) (by intro x hx; have f0 := hx.load 1 0 rfl rfl; have f1 := hx.load 1 1 rfl rfl; go_simp; (first | done | exact rfl)) ?_
  simp only [List.set_cons_succ, List.set_cons_zero]
  refine take_call (i := 3) (f := 100) (args := #[.agg #[.int .i64 (ti (x1.lo)), .int .i64 (ti (x1.hi))]]) (v := .agg #[.int .i64 (ti (x1.lo)), .int .i64 (ti (x1.hi))]) (st_ups _ _) rfl rfl (by kernel_rfl) (fun _ _ _ h => h) (by rfl) (fun x hx => by kernel_rfl) (by intro x hx; exact span_signed_any x1 _) ?_
  simp only [List.set_cons_succ, List.set_cons_zero]
  refine take_call (i := 4) (f := 99) (args := #[.agg #[.int .i64 (ti (x0.lo)), .int .i64 (ti (x0.hi))], .agg #[.int .i64 (ti (x1.lo)), .int .i64 (ti (x1.hi))]]) (v := .tuple #[.agg #[.int .i64 (ti (((span_meet_int64 x0 x1).1).lo)), .int .i64 (ti (((span_meet_int64 x0 x1).1).hi))], .bool ((span_meet_int64 x0 x1).2)]) (st_ups _ _) rfl rfl (by kernel_rfl) (fun _ _ _ h => h) (by rfl) (fun x hx => by kernel_rfl) (by intro x hx; exact span_meet_int64_any x0 x1 _) ?_
  simp only [List.set_cons_succ, List.set_cons_zero]
  refine take_val (i := 5) (v := .tuple #[.agg #[.int .i64 (ti (((span_meet_int64 x0 x1).1).lo)), .int .i64 (ti (((span_meet_int64 x0 x1).1).hi))], .bool ((span_meet_int64 x0 x1).2)]) (st_ups _ _) rfl rfl (by kernel_rfl) (fun _ _ _ h => h) (by rfl) (by intro x hx; go_simp; (first | done | exact rfl)) ?_
  simp only [List.set_cons_succ, List.set_cons_zero]
  refine take_val (i := 6) (v := .agg #[.int .i64 (ti (((span_meet_int64 x0 x1).1).lo)), .int .i64 (ti (((span_meet_int64 x0 x1).1).hi))]) (st_ups _ _) rfl rfl (by kernel_rfl) (fun _ _ _ h => h) (by rfl) (by intro x hx; go_simp; (first | done | exact rfl)) ?_
  simp only [List.set_cons_succ, List.set_cons_zero]
  refine take_val (i := 7) (v := .bool ((span_meet_int64 x0 x1).2)) (st_ups _ _) rfl rfl (by kernel_rfl) (fun _ _ _ h => h) (by rfl) (by intro x hx; go_simp; (first | done | exact rfl)) ?_
  simp only [List.set_cons_succ, List.set_cons_zero]
  refine take_one (i := 8) (by kernel_rfl) (step_new rfl rfl (by rfl) [.int .i64 0, .int .i64 0] 92 (fun k => .pointer (some ⟨k, 0, none⟩)) [none, none] (lessC_no (lessC_no (trivial))) (by intro x hx; go_simp; (first | done | exact rfl)) (fun k1 => ?_))
  simp only [List.set_cons_succ, List.set_cons_zero]
  refine take_one (i := 9) (by kernel_rfl) (step_store (St w [⟨w.heap.size, [some (.int .i64 (ti (x0.lo))), some (.int .i64 (ti (x0.hi)))], 38⟩, ⟨w.heap.size + 1, [some (.int .i64 (ti (x1.lo))), some (.int .i64 (ti (x1.hi)))], 38⟩, ⟨w.heap.size + 2, [some (.int .i64 0), some (.int .i64 0)], 38⟩, ⟨k1, [some (.int .i64 (ti (((span_meet_int64 x0 x1).1).lo))), some (.int .i64 (ti (((span_meet_int64 x0 x1).1).hi)))], 92⟩]) (st_ups _ _) (fun x h => h.less (less_cons rfl rfl (lessC_eq (lessC_eq (trivial))) (less_cons rfl rfl (lessC_eq (lessC_eq (trivial))) (less_cons rfl rfl (lessC_eq (lessC_eq (trivial))) (less_cons rfl rfl (lessC_no (lessC_no (trivial))) (trivial)))))) rfl rfl (by rfl) (fun x => ((x.setCell ⟨k1, 0, none⟩ (.int .i64 (ti (((span_meet_int64 x0 x1).1).lo)))).setCell ⟨k1, 1, none⟩ (.int .i64 (ti (((span_meet_int64 x0 x1).1).hi))))) (by intro x hx; obtain ⟨u0, z0⟩ := hx.has 3 0 rfl (by simp); have q0 := hx.soft 3 0 rfl; obtain ⟨u1, z1⟩ := hx.has 3 1 rfl (by simp); have q1 := hx.soft 3 1 rfl; go_simp; (first | done | rfl)) (fun x hx => ((hx.put 3 0 (.int .i64 (ti (((span_meet_int64 x0 x1).1).lo))) rfl).put 3 1 (.int .i64 (ti (((span_meet_int64 x0 x1).1).hi))) rfl)) ?_)
  refine take_val (i := 10) (v := .bool ((span_meet_int64 x0 x1).2)) (st_ups _ _) rfl rfl (by kernel_rfl) (fun _ _ _ h => h) (by rfl) (by intro x hx; go_simp; (first | done | exact rfl)) ?_
  simp only [List.set_cons_succ, List.set_cons_zero]
  refine take_done (by kernel_rfl) ?_ _
  intro W1 hx
  replace HS := hid hx
  clear hx
  -- region 2
  go_upto_region 2 with fail
  refine lin_begin (St w [⟨w.heap.size, [some (.int .i64 (ti (x0.lo))), some (.int .i64 (ti (x0.hi)))], 38⟩, ⟨w.heap.size + 1, [some (.int .i64 (ti (x1.lo))), some (.int .i64 (ti (x1.hi)))], 38⟩, ⟨w.heap.size + 2, [some (.int .i64 0), some (.int .i64 0)], 38⟩, ⟨k1, [some (.int .i64 (ti (((span_meet_int64 x0 x1).1).lo))), some (.int .i64 (ti (((span_meet_int64 x0 x1).1).hi)))], 92⟩]) rfl HS.out ?_
  refine lin_val (i := 0) (v := .agg #[.int .i64 (ti (((span_meet_int64 x0 x1).1).lo)), .int .i64 (ti (((span_meet_int64 x0 x1).1).hi))]) rfl rfl (by rfl) (by intro x hx; have f0 := hx.load 3 0 rfl rfl; have f1 := hx.load 3 1 rfl rfl; go_simp; (first | done | exact rfl)) ?_
  simp only [List.set_cons_succ, List.set_cons_zero]
  refine lin_call (i := 1) (f := 101) (args := #[.agg #[.int .i64 (ti (((span_meet_int64 x0 x1).1).lo)), .int .i64 (ti (((span_meet_int64 x0 x1).1).hi))]]) (v := .agg #[.int .i64 (ti (((span_meet_int64 x0 x1).1).lo)), .int .i64 (ti (((span_meet_int64 x0 x1).1).hi))]) (st_ups _ _) rfl rfl (by rfl) (fun x hx => by kernel_rfl) (by intro x hx; exact span_toSigned_any ((span_meet_int64 x0 x1).1) _) ?_
  simp only [List.set_cons_succ, List.set_cons_zero]
  refine lin_val (i := 2) (v := .bool ((span_meet_int64 x0 x1).2)) rfl rfl (by rfl) (by intro x hx; go_simp; (first | done | exact rfl)) ?_
  simp only [List.set_cons_succ, List.set_cons_zero]
  refine lin_store (i := 3) (St w [⟨w.heap.size, [some (.int .i64 (ti (x0.lo))), some (.int .i64 (ti (x0.hi)))], 38⟩, ⟨w.heap.size + 1, [some (.int .i64 (ti (x1.lo))), some (.int .i64 (ti (x1.hi)))], 38⟩, ⟨w.heap.size + 2, [some (.int .i64 (ti (((span_meet_int64 x0 x1).1).lo))), some (.int .i64 (ti (((span_meet_int64 x0 x1).1).hi)))], 38⟩, ⟨k1, [some (.int .i64 (ti (((span_meet_int64 x0 x1).1).lo))), some (.int .i64 (ti (((span_meet_int64 x0 x1).1).hi)))], 92⟩]) rfl rfl (by rfl) (fun x => ((x.setCell ⟨w.heap.size + 2, 0, none⟩ (.int .i64 (ti (((span_meet_int64 x0 x1).1).lo)))).setCell ⟨w.heap.size + 2, 1, none⟩ (.int .i64 (ti (((span_meet_int64 x0 x1).1).hi))))) (by intro x hx; obtain ⟨u0, z0⟩ := hx.has 2 0 rfl (by simp); have q0 := hx.soft 2 0 rfl; obtain ⟨u1, z1⟩ := hx.has 2 1 rfl (by simp); have q1 := hx.soft 2 1 rfl; go_simp; (first | done | rfl)) (fun x hx => ((hx.put 2 0 (.int .i64 (ti (((span_meet_int64 x0 x1).1).lo))) rfl).put 2 1 (.int .i64 (ti (((span_meet_int64 x0 x1).1).hi))) rfl)) ?_
  refine lin_val (i := 4) (v := .bool ((span_meet_int64 x0 x1).2)) rfl rfl (by rfl) (by intro x hx; go_simp; (first | done | exact rfl)) ?_
  simp only [List.set_cons_succ, List.set_cons_zero]
  refine lin_done ?_
  intro W2 hx
  replace HS := hid hx
  clear hx
  go_wp2
  have r0 := HS.out.load 2 0 rfl rfl
  have r1 := HS.out.load 2 1 rfl rfl
  exact bodyPost_ret (v := .tuple #[.agg #[.int .i64 (ti (((span_meet_int64 x0 x1).1).lo)), .int .i64 (ti (((span_meet_int64 x0 x1).1).hi))], .bool ((span_meet_int64 x0 x1).2)]) (by simp [results, Try.results48, go_sem, r0, r1]) rfl ⟨rfl, HS.out.below⟩
set_option maxRecDepth 100000 in
set_option maxHeartbeats 1000000 in
theorem span_sum_int64_any (x0 : BitVec 64) (x1 : BitVec 64)  (w : World) :
    Calls Try.prog 118 #[.int .i64 (ti (x0)), .int .i64 (ti (x1))] w fun e w' => e = .returned (.tuple #[.int .i64 (ti (x0 + x1)), .bool (((geI (x0 + x1) x0) == (geI x1 0#64)))]) ∧ Below w.heap.size w w' := by
  go_enter Try.func118, Try.ntmps118
  have HS := hid (st_nil w)
  -- region 1
  go_upto_region 1 with fail
  refine lin_begin (St w []) rfl HS.out ?_
  refine lin_val (i := 0) (v := .int .i64 (ti (x0))) rfl rfl (by rfl) (by intro x hx; go_simp; (first | done | exact rfl)) ?_
  simp only [List.set_cons_succ, List.set_cons_zero]
  refine lin_val (i := 1) (v := .int .i64 (ti (x1))) rfl rfl (by rfl) (by intro x hx; go_simp; (first | done | exact rfl)) ?_
  simp only [List.set_cons_succ, List.set_cons_zero]
  refine lin_val (i := 2) (v := .int .i64 (ti (x0 + x1))) rfl rfl (by rfl) (by intro x hx; go_simp; (first | done | exact addIT x0 x1 | exact congrArg _ (addIT x0 x1) | (rw [addIT x0 x1]; done) | (rw [addIT x0 x1]; rfl))) ?_
  simp only [List.set_cons_succ, List.set_cons_zero]
  refine lin_val (i := 3) (v := .int .i64 (ti (x0 + x1))) rfl rfl (by rfl) (by intro x hx; go_simp; (first | done | exact rfl)) ?_
  simp only [List.set_cons_succ, List.set_cons_zero]
  refine lin_done ?_
  intro W1 hx
  replace HS := hid hx
  clear hx
  -- region 2
  go_upto_region 2 with fail
  refine lin_begin (St w []) rfl HS.out ?_
  refine lin_val (i := 0) (v := .int .i64 (ti (x0 + x1))) rfl rfl (by rfl) (by intro x hx; go_simp; (first | done | exact rfl)) ?_
  simp only [List.set_cons_succ, List.set_cons_zero]
  refine lin_val (i := 1) (v := .int .i64 (ti (x0 + x1))) rfl rfl (by rfl) (by intro x hx; go_simp; (first | done | exact rfl)) ?_
  simp only [List.set_cons_succ, List.set_cons_zero]
  refine lin_val (i := 2) (v := .int .i64 (ti (x0))) rfl rfl (by rfl) (by intro x hx; go_simp; (first | done | exact rfl)) ?_
  simp only [List.set_cons_succ, List.set_cons_zero]
  refine lin_val (i := 3) (v := .bool (geI (x0 + x1) x0)) rfl rfl (by rfl) (by intro x hx; go_simp; (first | done | exact geIT (x0 + x1) x0 | exact congrArg _ (geIT (x0 + x1) x0) | (rw [geIT (x0 + x1) x0]; done) | (rw [geIT (x0 + x1) x0]; rfl))) ?_
  simp only [List.set_cons_succ, List.set_cons_zero]
  refine lin_val (i := 4) (v := .int .i64 (ti (x1))) rfl rfl (by rfl) (by intro x hx; go_simp; (first | done | exact rfl)) ?_
  simp only [List.set_cons_succ, List.set_cons_zero]
  refine lin_val (i := 5) (v := .bool (geI x1 0#64)) rfl rfl (by rfl) (by intro x hx; go_simp; (first | done | exact geIT x1 0#64 | exact congrArg _ (geIT x1 0#64) | (rw [geIT x1 0#64]; done) | (rw [geIT x1 0#64]; rfl))) ?_
  simp only [List.set_cons_succ, List.set_cons_zero]
  refine lin_val (i := 6) (v := .bool (((geI (x0 + x1) x0) == (geI x1 0#64)))) rfl rfl (by rfl) (by intro x hx; go_simp; (first | done | exact rfl)) ?_
  simp only [List.set_cons_succ, List.set_cons_zero]
  refine lin_val (i := 7) (v := .int .i64 (ti (x0 + x1))) rfl rfl (by rfl) (by intro x hx; go_simp; (first | done | exact rfl)) ?_
  simp only [List.set_cons_succ, List.set_cons_zero]
  refine lin_val (i := 8) (v := .bool (((geI (x0 + x1) x0) == (geI x1 0#64)))) rfl rfl (by rfl) (by intro x hx; go_simp; (first | done | exact rfl)) ?_
  simp only [List.set_cons_succ, List.set_cons_zero]
  refine lin_done ?_
  intro W2 hx
  replace HS := hid hx
  clear hx
  go_wp2
  exact bodyPost_ret (v := .tuple #[.int .i64 (ti (x0 + x1)), .bool (((geI (x0 + x1) x0) == (geI x1 0#64)))]) (by simp [results, Try.results118, go_sem]) rfl ⟨rfl, HS.out.below⟩
def span_add_int64 (x0 : P) (x1 : P) : P × Bool × Bool :=
  (P.mk (x0.lo + x1.lo) (x0.hi + x1.hi), ((geI (x0.lo + x1.lo) x0.lo) == (geI x1.lo 0#64)), ((geI (x0.hi + x1.hi) x0.hi) == (geI x1.hi 0#64)))
set_option maxRecDepth 100000 in
set_option maxHeartbeats 1000000 in
theorem span_add_int64_any (x0 : P) (x1 : P)  (w : World) :
    Calls Try.prog 105 #[.agg #[.int .i64 (ti (x0.lo)), .int .i64 (ti (x0.hi))], .agg #[.int .i64 (ti (x1.lo)), .int .i64 (ti (x1.hi))]] w fun e w' => e = .returned (.tuple #[.agg #[.int .i64 (ti (((span_add_int64 x0 x1).1).lo)), .int .i64 (ti (((span_add_int64 x0 x1).1).hi))], .bool ((span_add_int64 x0 x1).2.1), .bool ((span_add_int64 x0 x1).2.2)]) ∧ Below w.heap.size w w' := by
  go_enter Try.func105, Try.ntmps105
  have HS := hid ((((st_nil w).alloc (k := w.heap.size) rfl [.int .i64 (ti (x0.lo)), .int .i64 (ti (x0.hi))] 92).alloc (k := w.heap.size + 1) (by simp) [.int .i64 (ti (x1.lo)), .int .i64 (ti (x1.hi))] 92).alloc (k := w.heap.size + 2) (by simp) [.int .i64 0, .int .i64 0] 92)
  -- region 1
  go_upto_region 1 with fail
  refine lin_begin (St w [⟨w.heap.size, [some (.int .i64 (ti (x0.lo))), some (.int .i64 (ti (x0.hi)))], 92⟩, ⟨w.heap.size + 1, [some (.int .i64 (ti (x1.lo))), some (.int .i64 (ti (x1.hi)))], 92⟩, ⟨w.heap.size + 2, [some (.int .i64 0), some (.int .i64 0)], 92⟩]) rfl HS.out ?_
  refine lin_val (i := 0) (v := .pointer (some ⟨w.heap.size, 0, none⟩)) rfl rfl (by rfl) (by intro x hx; go_simp; (first | done | exact rfl)) ?_
  simp only [List.set_cons_succ, List.set_cons_zero]
  refine lin_val (i := 1) (v := .int .i64 (ti (x0.lo))) rfl rfl (by rfl) (by intro x hx; have f0 := hx.load 0 0 rfl rfl; go_simp; (first | done | exact rfl)) ?_
  simp only [List.set_cons_succ, List.set_cons_zero]
  refine lin_val (i := 2) (v := .pointer (some ⟨w.heap.size + 1, 0, none⟩)) rfl rfl (by rfl) (by intro x hx; go_simp; (first | done | exact rfl)) ?_
  simp only [List.set_cons_succ, List.set_cons_zero]
  refine lin_val (i := 3) (v := .int .i64 (ti (x1.lo))) rfl rfl (by rfl) (by intro x hx; have f0 := hx.load 1 0 rfl rfl; go_simp; (first | done | exact rfl)) ?_
  simp only [List.set_cons_succ, List.set_cons_zero]
  refine lin_call (i := 4) (f := 118) (args := #[.int .i64 (ti (x0.lo)), .int .i64 (ti (x1.lo))]) (v := .tuple #[.int .i64 (ti (x0.lo + x1.lo)), .bool (((geI (x0.lo + x1.lo) x0.lo) == (geI x1.lo 0#64)))]) (st_ups _ _) rfl rfl (by rfl) (fun x hx => by kernel_rfl) (by intro x hx; exact span_sum_int64_any x0.lo x1.lo _) ?_
  simp only [List.set_cons_succ, List.set_cons_zero]
  refine lin_val (i := 5) (v := .tuple #[.int .i64 (ti (x0.lo + x1.lo)), .bool (((geI (x0.lo + x1.lo) x0.lo) == (geI x1.lo 0#64)))]) rfl rfl (by rfl) (by intro x hx; go_simp; (first | done | exact rfl)) ?_
  simp only [List.set_cons_succ, List.set_cons_zero]
  refine lin_val (i := 6) (v := .int .i64 (ti (x0.lo + x1.lo))) rfl rfl (by rfl) (by intro x hx; go_simp; (first | done | exact rfl)) ?_
  simp only [List.set_cons_succ, List.set_cons_zero]
  refine lin_val (i := 7) (v := .bool (((geI (x0.lo + x1.lo) x0.lo) == (geI x1.lo 0#64)))) rfl rfl (by rfl) (by intro x hx; go_simp; (first | done | exact rfl)) ?_
  simp only [List.set_cons_succ, List.set_cons_zero]
  refine lin_val (i := 8) (v := .pointer (some ⟨w.heap.size + 2, 0, none⟩)) rfl rfl (by rfl) (by intro x hx; go_simp; (first | done | exact rfl)) ?_
  simp only [List.set_cons_succ, List.set_cons_zero]
  refine lin_store (i := 9) (St w [⟨w.heap.size, [some (.int .i64 (ti (x0.lo))), some (.int .i64 (ti (x0.hi)))], 92⟩, ⟨w.heap.size + 1, [some (.int .i64 (ti (x1.lo))), some (.int .i64 (ti (x1.hi)))], 92⟩, ⟨w.heap.size + 2, [some (.int .i64 (ti (x0.lo + x1.lo))), some (.int .i64 0)], 92⟩]) rfl rfl (by rfl) (fun x => (x.setCell ⟨w.heap.size + 2, 0, none⟩ (.int .i64 (ti (x0.lo + x1.lo))))) (by intro x hx; obtain ⟨u0, z0⟩ := hx.has 2 0 rfl (by simp); have q0 := hx.soft 2 0 rfl; go_simp; (first | done | rfl)) (fun x hx => (hx.put 2 0 (.int .i64 (ti (x0.lo + x1.lo))) rfl)) ?_
  refine lin_val (i := 10) (v := .bool (((geI (x0.lo + x1.lo) x0.lo) == (geI x1.lo 0#64)))) rfl rfl (by rfl) (by intro x hx; go_simp; (first | done | exact rfl)) ?_
  simp only [List.set_cons_succ, List.set_cons_zero]
  refine lin_done ?_
  intro W1 hx
  replace HS := hid hx
  clear hx
  -- region 2
  go_upto_region 2 with fail
  refine lin_begin (St w [⟨w.heap.size, [some (.int .i64 (ti (x0.lo))), some (.int .i64 (ti (x0.hi)))], 92⟩, ⟨w.heap.size + 1, [some (.int .i64 (ti (x1.lo))), some (.int .i64 (ti (x1.hi)))], 92⟩, ⟨w.heap.size + 2, [some (.int .i64 (ti (x0.lo + x1.lo))), some (.int .i64 0)], 92⟩]) rfl HS.out ?_
  refine lin_val (i := 0) (v := .pointer (some ⟨w.heap.size, 1, none⟩)) rfl rfl (by rfl) (by intro x hx; go_simp; (first | done | exact rfl)) ?_
  simp only [List.set_cons_succ, List.set_cons_zero]
  refine lin_val (i := 1) (v := .int .i64 (ti (x0.hi))) rfl rfl (by rfl) (by intro x hx; have f0 := hx.load 0 1 rfl rfl; go_simp; (first | done | exact rfl)) ?_
  simp only [List.set_cons_succ, List.set_cons_zero]
  refine lin_val (i := 2) (v := .pointer (some ⟨w.heap.size + 1, 1, none⟩)) rfl rfl (by rfl) (by intro x hx; go_simp; (first | done | exact rfl)) ?_
  simp only [List.set_cons_succ, List.set_cons_zero]
  refine lin_val (i := 3) (v := .int .i64 (ti (x1.hi))) rfl rfl (by rfl) (by intro x hx; have f0 := hx.load 1 1 rfl rfl; go_simp; (first | done | exact rfl)) ?_
  simp only [List.set_cons_succ, List.set_cons_zero]
  refine lin_call (i := 4) (f := 118) (args := #[.int .i64 (ti (x0.hi)), .int .i64 (ti (x1.hi))]) (v := .tuple #[.int .i64 (ti (x0.hi + x1.hi)), .bool (((geI (x0.hi + x1.hi) x0.hi) == (geI x1.hi 0#64)))]) (st_ups _ _) rfl rfl (by rfl) (fun x hx => by kernel_rfl) (by intro x hx; exact span_sum_int64_any x0.hi x1.hi _) ?_
  simp only [List.set_cons_succ, List.set_cons_zero]
  refine lin_val (i := 5) (v := .tuple #[.int .i64 (ti (x0.hi + x1.hi)), .bool (((geI (x0.hi + x1.hi) x0.hi) == (geI x1.hi 0#64)))]) rfl rfl (by rfl) (by intro x hx; go_simp; (first | done | exact rfl)) ?_
  simp only [List.set_cons_succ, List.set_cons_zero]
  refine lin_val (i := 6) (v := .int .i64 (ti (x0.hi + x1.hi))) rfl rfl (by rfl) (by intro x hx; go_simp; (first | done | exact rfl)) ?_
  simp only [List.set_cons_succ, List.set_cons_zero]
  refine lin_val (i := 7) (v := .bool (((geI (x0.hi + x1.hi) x0.hi) == (geI x1.hi 0#64)))) rfl rfl (by rfl) (by intro x hx; go_simp; (first | done | exact rfl)) ?_
  simp only [List.set_cons_succ, List.set_cons_zero]
  refine lin_val (i := 8) (v := .pointer (some ⟨w.heap.size + 2, 1, none⟩)) rfl rfl (by rfl) (by intro x hx; go_simp; (first | done | exact rfl)) ?_
  simp only [List.set_cons_succ, List.set_cons_zero]
  refine lin_store (i := 9) (St w [⟨w.heap.size, [some (.int .i64 (ti (x0.lo))), some (.int .i64 (ti (x0.hi)))], 92⟩, ⟨w.heap.size + 1, [some (.int .i64 (ti (x1.lo))), some (.int .i64 (ti (x1.hi)))], 92⟩, ⟨w.heap.size + 2, [some (.int .i64 (ti (x0.lo + x1.lo))), some (.int .i64 (ti (x0.hi + x1.hi)))], 92⟩]) rfl rfl (by rfl) (fun x => (x.setCell ⟨w.heap.size + 2, 1, none⟩ (.int .i64 (ti (x0.hi + x1.hi))))) (by intro x hx; obtain ⟨u0, z0⟩ := hx.has 2 1 rfl (by simp); have q0 := hx.soft 2 1 rfl; go_simp; (first | done | rfl)) (fun x hx => (hx.put 2 1 (.int .i64 (ti (x0.hi + x1.hi))) rfl)) ?_
  refine lin_val (i := 10) (v := .bool (((geI (x0.hi + x1.hi) x0.hi) == (geI x1.hi 0#64)))) rfl rfl (by rfl) (by intro x hx; go_simp; (first | done | exact rfl)) ?_
  simp only [List.set_cons_succ, List.set_cons_zero]
  refine lin_done ?_
  intro W2 hx
  replace HS := hid hx
  clear hx
  -- region 3
  go_upto_region 3 with fail
  refine lin_begin (St w [⟨w.heap.size, [some (.int .i64 (ti (x0.lo))), some (.int .i64 (ti (x0.hi)))], 92⟩, ⟨w.heap.size + 1, [some (.int .i64 (ti (x1.lo))), some (.int .i64 (ti (x1.hi)))], 92⟩, ⟨w.heap.size + 2, [some (.int .i64 (ti (x0.lo + x1.lo))), some (.int .i64 (ti (x0.hi + x1.hi)))], 92⟩]) rfl HS.out ?_
  refine lin_val (i := 0) (v := .agg #[.int .i64 (ti (x0.lo + x1.lo)), .int .i64 (ti (x0.hi + x1.hi))]) rfl rfl (by rfl) (by intro x hx; have f0 := hx.load 2 0 rfl rfl; have f1 := hx.load 2 1 rfl rfl; go_simp; (first | done | exact rfl)) ?_
  simp only [List.set_cons_succ, List.set_cons_zero]
  refine lin_val (i := 1) (v := .bool (((geI (x0.lo + x1.lo) x0.lo) == (geI x1.lo 0#64)))) rfl rfl (by rfl) (by intro x hx; go_simp; (first | done | exact rfl)) ?_
  simp only [List.set_cons_succ, List.set_cons_zero]
  refine lin_val (i := 2) (v := .bool (((geI (x0.hi + x1.hi) x0.hi) == (geI x1.hi 0#64)))) rfl rfl (by rfl) (by intro x hx; go_simp; (first | done | exact rfl)) ?_
  simp only [List.set_cons_succ, List.set_cons_zero]
  refine lin_store (i := 3) (St w [⟨w.heap.size, [some (.int .i64 (ti (x0.lo))), some (.int .i64 (ti (x0.hi)))], 92⟩, ⟨w.heap.size + 1, [some (.int .i64 (ti (x1.lo))), some (.int .i64 (ti (x1.hi)))], 92⟩, ⟨w.heap.size + 2, [some (.int .i64 (ti (x0.lo + x1.lo))), some (.int .i64 (ti (x0.hi + x1.hi)))], 92⟩]) rfl rfl (by rfl) (fun x => ((x.setCell ⟨w.heap.size + 2, 0, none⟩ (.int .i64 (ti (x0.lo + x1.lo)))).setCell ⟨w.heap.size + 2, 1, none⟩ (.int .i64 (ti (x0.hi + x1.hi))))) (by intro x hx; obtain ⟨u0, z0⟩ := hx.has 2 0 rfl (by simp); have q0 := hx.soft 2 0 rfl; obtain ⟨u1, z1⟩ := hx.has 2 1 rfl (by simp); have q1 := hx.soft 2 1 rfl; go_simp; (first | done | rfl)) (fun x hx => ((hx.put 2 0 (.int .i64 (ti (x0.lo + x1.lo))) rfl).put 2 1 (.int .i64 (ti (x0.hi + x1.hi))) rfl)) ?_
  refine lin_val (i := 4) (v := .bool (((geI (x0.lo + x1.lo) x0.lo) == (geI x1.lo 0#64)))) rfl rfl (by rfl) (by intro x hx; go_simp; (first | done | exact rfl)) ?_
  simp only [List.set_cons_succ, List.set_cons_zero]
  refine lin_val (i := 5) (v := .bool (((geI (x0.hi + x1.hi) x0.hi) == (geI x1.hi 0#64)))) rfl rfl (by rfl) (by intro x hx; go_simp; (first | done | exact rfl)) ?_
  simp only [List.set_cons_succ, List.set_cons_zero]
  refine lin_done ?_
  intro W3 hx
  replace HS := hid hx
  clear hx
  go_wp2
  have r0 := HS.out.load 2 0 rfl rfl
  have r1 := HS.out.load 2 1 rfl rfl
  have HF : span_add_int64 x0 x1 = (P.mk (x0.lo + x1.lo) (x0.hi + x1.hi), ((geI (x0.lo + x1.lo) x0.lo) == (geI x1.lo 0#64)), ((geI (x0.hi + x1.hi) x0.hi) == (geI x1.hi 0#64))) := by
    unfold span_add_int64
    rfl
  exact bodyPost_ret (v := .tuple #[.agg #[.int .i64 (ti (x0.lo + x1.lo)), .int .i64 (ti (x0.hi + x1.hi))], .bool (((geI (x0.lo + x1.lo) x0.lo) == (geI x1.lo 0#64))), .bool (((geI (x0.hi + x1.hi) x0.hi) == (geI x1.hi 0#64)))]) (by simp [results, Try.results105, go_sem, r0, r1]) rfl ⟨(by first | (rw [HF]; done) | (rw [HF]; rfl)), HS.out.below⟩
def span_both (x0 : P) (x1 : Bool) (x2 : Bool) : P :=
  bif (!x1) then (P.mk 9223372036854775808#64 9223372036854775807#64) else (bif (!x2) then (P.mk 9223372036854775808#64 9223372036854775807#64) else (x0))
set_option maxRecDepth 100000 in
set_option maxHeartbeats 1000000 in
theorem span_both_any (x0 : P) (x1 : Bool) (x2 : Bool)  (w : World) :
    Calls Try.prog 106 #[.agg #[.int .i64 (ti (x0.lo)), .int .i64 (ti (x0.hi))], .bool (x1), .bool (x2)] w fun e w' => e = .returned (.agg #[.int .i64 (ti ((span_both x0 x1 x2).lo)), .int .i64 (ti ((span_both x0 x1 x2).hi))]) ∧ Below w.heap.size w w' := by
  go_enter Try.func106, Try.ntmps106
  have HS := hid (((st_nil w).alloc (k := w.heap.size) rfl [.int .i64 (ti (x0.lo)), .int .i64 (ti (x0.hi))] 92).alloc (k := w.heap.size + 1) (by simp) [.int .i64 0, .int .i64 0] 38)
  -- region 1
  go_upto_region 1 with fail
  refine lin_begin (St w [⟨w.heap.size, [some (.int .i64 (ti (x0.lo))), some (.int .i64 (ti (x0.hi)))], 92⟩, ⟨w.heap.size + 1, [some (.int .i64 0), some (.int .i64 0)], 38⟩]) rfl HS.out ?_
  refine lin_val (i := 0) (v := .bool (x1)) rfl rfl (by rfl) (by intro x hx; go_simp; (first | done | exact rfl)) ?_
  simp only [List.set_cons_succ, List.set_cons_zero]
  refine lin_val (i := 1) (v := .bool ((!x1))) rfl rfl (by rfl) (by intro x hx; go_simp; (first | done | exact rfl)) ?_
  simp only [List.set_cons_succ, List.set_cons_zero]
  refine lin_val (i := 2) (v := .bool ((!x1))) rfl rfl (by rfl) (by intro x hx; go_simp; (first | done | exact rfl)) ?_
  simp only [List.set_cons_succ, List.set_cons_zero]
  cases h1 : ((!x1))
  · replace h1 := hid h1
    refine lin_val (i := 3) (v := .bool (x2)) rfl rfl (by rfl) (by intro x hx; go_simp; (first | done | exact rfl)) ?_
    simp only [List.set_cons_succ, List.set_cons_zero]
    refine lin_val (i := 4) (v := .bool ((!x2))) rfl rfl (by rfl) (by intro x hx; go_simp; (first | done | exact rfl)) ?_
    simp only [List.set_cons_succ, List.set_cons_zero]
    refine lin_val (i := 5) (v := .bool ((!x2))) rfl rfl (by rfl) (by intro x hx; go_simp; (first | done | exact rfl)) ?_
    simp only [List.set_cons_succ, List.set_cons_zero]
    refine lin_done ?_
    intro W1 hx
    replace HS := hid hx
    clear hx
    cases h2 : ((!x2))
    · replace h2 := hid h2
      -- region 3
      go_upto_region 3 with fail
      refine lin_begin (St w [⟨w.heap.size, [some (.int .i64 (ti (x0.lo))), some (.int .i64 (ti (x0.hi)))], 92⟩, ⟨w.heap.size + 1, [some (.int .i64 0), some (.int .i64 0)], 38⟩]) rfl HS.out ?_
      refine lin_val (i := 0) (v := .agg #[.int .i64 (ti (x0.lo)), .int .i64 (ti (x0.hi))]) rfl rfl (by rfl) (by intro x hx; have f0 := hx.load 0 0 rfl rfl; have f1 := hx.load 0 1 rfl rfl; go_simp; (first | done | exact rfl)) ?_
      simp only [List.set_cons_succ, List.set_cons_zero]
      refine lin_call (i := 1) (f := 101) (args := #[.agg #[.int .i64 (ti (x0.lo)), .int .i64 (ti (x0.hi))]]) (v := .agg #[.int .i64 (ti (x0.lo)), .int .i64 (ti (x0.hi))]) (st_ups _ _) rfl rfl (by rfl) (fun x hx => by kernel_rfl) (by intro x hx; exact span_toSigned_any x0 _) ?_
      simp only [List.set_cons_succ, List.set_cons_zero]
      refine lin_store (i := 2) (St w [⟨w.heap.size, [some (.int .i64 (ti (x0.lo))), some (.int .i64 (ti (x0.hi)))], 92⟩, ⟨w.heap.size + 1, [some (.int .i64 (ti (x0.lo))), some (.int .i64 (ti (x0.hi)))], 38⟩]) rfl rfl (by rfl) (fun x => ((x.setCell ⟨w.heap.size + 1, 0, none⟩ (.int .i64 (ti (x0.lo)))).setCell ⟨w.heap.size + 1, 1, none⟩ (.int .i64 (ti (x0.hi))))) (by intro x hx; obtain ⟨u0, z0⟩ := hx.has 1 0 rfl (by simp); have q0 := hx.soft 1 0 rfl; obtain ⟨u1, z1⟩ := hx.has 1 1 rfl (by simp); have q1 := hx.soft 1 1 rfl; go_simp; (first | done | rfl)) (fun x hx => ((hx.put 1 0 (.int .i64 (ti (x0.lo))) rfl).put 1 1 (.int .i64 (ti (x0.hi))) rfl)) ?_
      refine lin_done ?_
      intro W2 hx
      replace HS := hid hx
      clear hx
      go_wp2
      have r0 := HS.out.load 1 0 rfl rfl
      have r1 := HS.out.load 1 1 rfl rfl
      have HF : span_both x0 x1 x2 = x0 := by
        unfold span_both
        rw [cond_f h1.out, cond_f h2.out]
      exact bodyPost_ret (v := .agg #[.int .i64 (ti (x0.lo)), .int .i64 (ti (x0.hi))]) (by simp [results, Try.results106, go_sem, r0, r1]) rfl ⟨(by first | (rw [HF]; done) | (rw [HF]; rfl)), HS.out.below⟩
    · replace h2 := hid h2
      -- region 2
      go_upto_region 2 with fail
      refine lin_begin (St w [⟨w.heap.size, [some (.int .i64 (ti (x0.lo))), some (.int .i64 (ti (x0.hi)))], 92⟩, ⟨w.heap.size + 1, [some (.int .i64 0), some (.int .i64 0)], 38⟩]) rfl HS.out ?_
      refine lin_call (i := 0) (f := 52) (args := #[]) (v := .agg #[.int .i64 (ti (9223372036854775808#64)), .int .i64 (ti (9223372036854775807#64))]) (st_ups _ _) rfl rfl (by rfl) (fun x hx => by kernel_rfl) (by intro x hx; exact span_Sall_any _) ?_
      simp only [List.set_cons_succ, List.set_cons_zero]
      refine lin_store (i := 1) (St w [⟨w.heap.size, [some (.int .i64 (ti (x0.lo))), some (.int .i64 (ti (x0.hi)))], 92⟩, ⟨w.heap.size + 1, [some (.int .i64 (ti (9223372036854775808#64))), some (.int .i64 (ti (9223372036854775807#64)))], 38⟩]) rfl rfl (by rfl) (fun x => ((x.setCell ⟨w.heap.size + 1, 0, none⟩ (.int .i64 (ti (9223372036854775808#64)))).setCell ⟨w.heap.size + 1, 1, none⟩ (.int .i64 (ti (9223372036854775807#64))))) (by intro x hx; obtain ⟨u0, z0⟩ := hx.has 1 0 rfl (by simp); have q0 := hx.soft 1 0 rfl; obtain ⟨u1, z1⟩ := hx.has 1 1 rfl (by simp); have q1 := hx.soft 1 1 rfl; go_simp; (first | done | rfl)) (fun x hx => ((hx.put 1 0 (.int .i64 (ti (9223372036854775808#64))) rfl).put 1 1 (.int .i64 (ti (9223372036854775807#64))) rfl)) ?_
      refine lin_done ?_
      intro W2 hx
      replace HS := hid hx
      clear hx
      go_wp2
      have r0 := HS.out.load 1 0 rfl rfl
      have r1 := HS.out.load 1 1 rfl rfl
      have HF : span_both x0 x1 x2 = P.mk 9223372036854775808#64 9223372036854775807#64 := by
        unfold span_both
        rw [cond_f h1.out, cond_t h2.out]
      exact bodyPost_ret (v := .agg #[.int .i64 (ti (9223372036854775808#64)), .int .i64 (ti (9223372036854775807#64))]) (by simp [results, Try.results106, go_sem, r0, r1]) rfl ⟨(by first | (rw [HF]; done) | (rw [HF]; rfl)), HS.out.below⟩
  · replace h1 := hid h1
    refine lin_no (i := 3) rfl rfl (by kernel_rfl) ?_
    simp only [List.set_cons_succ, List.set_cons_zero]
    refine lin_no (i := 4) rfl rfl (by kernel_rfl) ?_
    simp only [List.set_cons_succ, List.set_cons_zero]
    refine lin_val (i := 5) (v := .bool true) rfl rfl (by rfl) (by intro x hx; go_simp; (first | done | exact rfl)) ?_
    simp only [List.set_cons_succ, List.set_cons_zero]
    refine lin_done ?_
    intro W1 hx
    replace HS := hid hx
    clear hx
    -- region 2
    go_upto_region 2 with fail
    refine lin_begin (St w [⟨w.heap.size, [some (.int .i64 (ti (x0.lo))), some (.int .i64 (ti (x0.hi)))], 92⟩, ⟨w.heap.size + 1, [some (.int .i64 0), some (.int .i64 0)], 38⟩]) rfl HS.out ?_
    refine lin_call (i := 0) (f := 52) (args := #[]) (v := .agg #[.int .i64 (ti (9223372036854775808#64)), .int .i64 (ti (9223372036854775807#64))]) (st_ups _ _) rfl rfl (by rfl) (fun x hx => by kernel_rfl) (by intro x hx; exact span_Sall_any _) ?_
    simp only [List.set_cons_succ, List.set_cons_zero]
    refine lin_store (i := 1) (St w [⟨w.heap.size, [some (.int .i64 (ti (x0.lo))), some (.int .i64 (ti (x0.hi)))], 92⟩, ⟨w.heap.size + 1, [some (.int .i64 (ti (9223372036854775808#64))), some (.int .i64 (ti (9223372036854775807#64)))], 38⟩]) rfl rfl (by rfl) (fun x => ((x.setCell ⟨w.heap.size + 1, 0, none⟩ (.int .i64 (ti (9223372036854775808#64)))).setCell ⟨w.heap.size + 1, 1, none⟩ (.int .i64 (ti (9223372036854775807#64))))) (by intro x hx; obtain ⟨u0, z0⟩ := hx.has 1 0 rfl (by simp); have q0 := hx.soft 1 0 rfl; obtain ⟨u1, z1⟩ := hx.has 1 1 rfl (by simp); have q1 := hx.soft 1 1 rfl; go_simp; (first | done | rfl)) (fun x hx => ((hx.put 1 0 (.int .i64 (ti (9223372036854775808#64))) rfl).put 1 1 (.int .i64 (ti (9223372036854775807#64))) rfl)) ?_
    refine lin_done ?_
    intro W2 hx
    replace HS := hid hx
    clear hx
    go_wp2
    have r0 := HS.out.load 1 0 rfl rfl
    have r1 := HS.out.load 1 1 rfl rfl
    have HF : span_both x0 x1 x2 = P.mk 9223372036854775808#64 9223372036854775807#64 := by
      unfold span_both
      rw [cond_t h1.out]
    exact bodyPost_ret (v := .agg #[.int .i64 (ti (9223372036854775808#64)), .int .i64 (ti (9223372036854775807#64))]) (by simp [results, Try.results106, go_sem, r0, r1]) rfl ⟨(by first | (rw [HF]; done) | (rw [HF]; rfl)), HS.out.below⟩
def span_Sadd (x0 : P) (x1 : P) : P :=
  span_both ((span_add_int64 x0 x1).1) ((span_add_int64 x0 x1).2.1) ((span_add_int64 x0 x1).2.2)
set_option maxRecDepth 100000 in
set_option maxHeartbeats 1000000 in
theorem span_Sadd_any (x0 : P) (x1 : P)  (w : World) :
    Calls Try.prog 60 #[.agg #[.int .i64 (ti (x0.lo)), .int .i64 (ti (x0.hi))], .agg #[.int .i64 (ti (x1.lo)), .int .i64 (ti (x1.hi))]] w fun e w' => e = .returned (.agg #[.int .i64 (ti ((span_Sadd x0 x1).lo)), .int .i64 (ti ((span_Sadd x0 x1).hi))]) ∧ Below w.heap.size w w' := by
  go_enter Try.func60, Try.ntmps60
  have HS := hid ((((st_nil w).alloc (k := w.heap.size) rfl [.int .i64 (ti (x0.lo)), .int .i64 (ti (x0.hi))] 38).alloc (k := w.heap.size + 1) (by simp) [.int .i64 (ti (x1.lo)), .int .i64 (ti (x1.hi))] 38).alloc (k := w.heap.size + 2) (by simp) [.int .i64 0, .int .i64 0] 38)
  -- region 1
  go_upto_region 1 with fail
  refine up_begin (St w [⟨w.heap.size, [some (.int .i64 (ti (x0.lo))), some (.int .i64 (ti (x0.hi)))], 38⟩, ⟨w.heap.size + 1, [some (.int .i64 (ti (x1.lo))), some (.int .i64 (ti (x1.hi)))], 38⟩, ⟨w.heap.size + 2, [some (.int .i64 0), some (.int .i64 0)], 38⟩]) 13 rfl (by kernel_rfl) (HS.out.drew) ?_
  refine take_val (i := 0) (v := .agg #[.int .i64 (ti (x0.lo)), .int .i64 (ti (x0.hi))]) (st_ups _ _) rfl rfl (by kernel_rfl) (fun _ _ _ h => h) (by rfl) (by intro x hx; have f0 := hx.load 0 0 rfl rfl; have f1 := hx.load 0 1 rfl rfl; go_simp; (first | done | exact rfl)) ?_
  simp only [List.set_cons_succ, List.set_cons_zero]
  refine take_call (i := 1) (f := 100) (args := #[.agg #[.int .i64 (ti (x0.lo)), .int .i64 (ti (x0.hi))]]) (v := .agg #[.int .i64 (ti (x0.lo)), .int .i64 (ti (x0.hi))]) (st_ups _ _) rfl rfl (by kernel_rfl) (fun _ _ _ h => h) (by rfl) (fun x hx => by kernel_rfl) (by intro x hx; exact span_signed_any x0 _) ?_
  simp only [List.set_cons_succ, List.set_cons_zero]
  refine take_val (i := 2) (v := .agg #[.int .i64 (ti (x1.lo)), .int .i64 (ti (x1.hi))]) (st_ups _ _) rfl rfl (by kernel_rfl) (fun _ _ _ h => h) (by rfl) (by intro x hx; have f0 := hx.load 1 0 rfl rfl; have f1 := hx.load 1 1 rfl rfl; go_simp; (first | done | exact rfl)) ?_
  simp only [List.set_cons_succ, List.set_cons_zero]
  refine take_call (i := 3) (f := 100) (args := #[.agg #[.int .i64 (ti (x1.lo)), .int .i64 (ti (x1.hi))]]) (v := .agg #[.int .i64 (ti (x1.lo)), .int .i64 (ti (x1.hi))]) (st_ups _ _) rfl rfl (by kernel_rfl) (fun _ _ _ h => h) (by rfl) (fun x hx => by kernel_rfl) (by intro x hx; exact span_signed_any x1 _) ?_
  simp only [List.set_cons_succ, List.set_cons_zero]
  refine take_call (i := 4) (f := 105) (args := #[.agg #[.int .i64 (ti (x0.lo)), .int .i64 (ti (x0.hi))], .agg #[.int .i64 (ti (x1.lo)), .int .i64 (ti (x1.hi))]]) (v := .tuple #[.agg #[.int .i64 (ti (((span_add_int64 x0 x1).1).lo)), .int .i64 (ti (((span_add_int64 x0 x1).1).hi))], .bool ((span_add_int64 x0 x1).2.1), .bool ((span_add_int64 x0 x1).2.2)]) (st_ups _ _) rfl rfl (by kernel_rfl) (fun _ _ _ h => h) (by rfl) (fun x hx => by kernel_rfl) (by intro x hx; exact span_add_int64_any x0 x1 _) ?_
  simp only [List.set_cons_succ, List.set_cons_zero]
  refine take_val (i := 5) (v := .tuple #[.agg #[.int .i64 (ti (((span_add_int64 x0 x1).1).lo)), .int .i64 (ti (((span_add_int64 x0 x1).1).hi))], .bool ((span_add_int64 x0 x1).2.1), .bool ((span_add_int64 x0 x1).2.2)]) (st_ups _ _) rfl rfl (by kernel_rfl) (fun _ _ _ h => h) (by rfl) (by intro x hx; go_simp; (first | done | exact rfl)) ?_
  simp only [List.set_cons_succ, List.set_cons_zero]
  refine take_val (i := 6) (v := .agg #[.int .i64 (ti (((span_add_int64 x0 x1).1).lo)), .int .i64 (ti (((span_add_int64 x0 x1).1).hi))]) (st_ups _ _) rfl rfl (by kernel_rfl) (fun _ _ _ h => h) (by rfl) (by intro x hx; go_simp; (first | done | exact rfl)) ?_
  simp only [List.set_cons_succ, List.set_cons_zero]
  refine take_val (i := 7) (v := .bool ((span_add_int64 x0 x1).2.1)) (st_ups _ _) rfl rfl (by kernel_rfl) (fun _ _ _ h => h) (by rfl) (by intro x hx; go_simp; (first | done | exact rfl)) ?_
  simp only [List.set_cons_succ, List.set_cons_zero]
  refine take_val (i := 8) (v := .bool ((span_add_int64 x0 x1).2.2)) (st_ups _ _) rfl rfl (by kernel_rfl) (fun _ _ _ h => h) (by rfl) (by intro x hx; go_simp; (first | done | exact rfl)) ?_
  simp only [List.set_cons_succ, List.set_cons_zero]
  refine take_one (i := 9) (by kernel_rfl) (step_new rfl rfl (by rfl) [.int .i64 0, .int .i64 0] 92 (fun k => .pointer (some ⟨k, 0, none⟩)) [none, none] (lessC_no (lessC_no (trivial))) (by intro x hx; go_simp; (first | done | exact rfl)) (fun k1 => ?_))
  simp only [List.set_cons_succ, List.set_cons_zero]
  refine take_one (i := 10) (by kernel_rfl) (step_store (St w [⟨w.heap.size, [some (.int .i64 (ti (x0.lo))), some (.int .i64 (ti (x0.hi)))], 38⟩, ⟨w.heap.size + 1, [some (.int .i64 (ti (x1.lo))), some (.int .i64 (ti (x1.hi)))], 38⟩, ⟨w.heap.size + 2, [some (.int .i64 0), some (.int .i64 0)], 38⟩, ⟨k1, [some (.int .i64 (ti (((span_add_int64 x0 x1).1).lo))), some (.int .i64 (ti (((span_add_int64 x0 x1).1).hi)))], 92⟩]) (st_ups _ _) (fun x h => h.less (less_cons rfl rfl (lessC_eq (lessC_eq (trivial))) (less_cons rfl rfl (lessC_eq (lessC_eq (trivial))) (less_cons rfl rfl (lessC_eq (lessC_eq (trivial))) (less_cons rfl rfl (lessC_no (lessC_no (trivial))) (trivial)))))) rfl rfl (by rfl) (fun x => ((x.setCell ⟨k1, 0, none⟩ (.int .i64 (ti (((span_add_int64 x0 x1).1).lo)))).setCell ⟨k1, 1, none⟩ (.int .i64 (ti (((span_add_int64 x0 x1).1).hi))))) (by intro x hx; obtain ⟨u0, z0⟩ := hx.has 3 0 rfl (by simp); have q0 := hx.soft 3 0 rfl; obtain ⟨u1, z1⟩ := hx.has 3 1 rfl (by simp); have q1 := hx.soft 3 1 rfl; go_simp; (first | done | rfl)) (fun x hx => ((hx.put 3 0 (.int .i64 (ti (((span_add_int64 x0 x1).1).lo))) rfl).put 3 1 (.int .i64 (ti (((span_add_int64 x0 x1).1).hi))) rfl)) ?_)
  refine take_val (i := 11) (v := .bool ((span_add_int64 x0 x1).2.1)) (st_ups _ _) rfl rfl (by kernel_rfl) (fun _ _ _ h => h) (by rfl) (by intro x hx; go_simp; (first | done | exact rfl)) ?_
  simp only [List.set_cons_succ, List.set_cons_zero]
  refine take_val (i := 12) (v := .bool ((span_add_int64 x0 x1).2.2)) (st_ups _ _) rfl rfl (by kernel_rfl) (fun _ _ _ h => h) (by rfl) (by intro x hx; go_simp; (first | done | exact rfl)) ?_
  simp only [List.set_cons_succ, List.set_cons_zero]
  refine take_done (by kernel_rfl) ?_ _
  intro W1 hx
  replace HS := hid hx
  clear hx
  -- region 2
  go_upto_region 2 with fail
  refine lin_begin (St w [⟨w.heap.size, [some (.int .i64 (ti (x0.lo))), some (.int .i64 (ti (x0.hi)))], 38⟩, ⟨w.heap.size + 1, [some (.int .i64 (ti (x1.lo))), some (.int .i64 (ti (x1.hi)))], 38⟩, ⟨w.heap.size + 2, [some (.int .i64 0), some (.int .i64 0)], 38⟩, ⟨k1, [some (.int .i64 (ti (((span_add_int64 x0 x1).1).lo))), some (.int .i64 (ti (((span_add_int64 x0 x1).1).hi)))], 92⟩]) rfl HS.out ?_
  refine lin_val (i := 0) (v := .agg #[.int .i64 (ti (((span_add_int64 x0 x1).1).lo)), .int .i64 (ti (((span_add_int64 x0 x1).1).hi))]) rfl rfl (by rfl) (by intro x hx; have f0 := hx.load 3 0 rfl rfl; have f1 := hx.load 3 1 rfl rfl; go_simp; (first | done | exact rfl)) ?_
  simp only [List.set_cons_succ, List.set_cons_zero]
  refine lin_val (i := 1) (v := .bool ((span_add_int64 x0 x1).2.1)) rfl rfl (by rfl) (by intro x hx; go_simp; (first | done | exact rfl)) ?_
  simp only [List.set_cons_succ, List.set_cons_zero]
  refine lin_val (i := 2) (v := .bool ((span_add_int64 x0 x1).2.2)) rfl rfl (by rfl) (by intro x hx; go_simp; (first | done | exact rfl)) ?_
  simp only [List.set_cons_succ, List.set_cons_zero]
  refine lin_call (i := 3) (f := 106) (args := #[.agg #[.int .i64 (ti (((span_add_int64 x0 x1).1).lo)), .int .i64 (ti (((span_add_int64 x0 x1).1).hi))], .bool ((span_add_int64 x0 x1).2.1), .bool ((span_add_int64 x0 x1).2.2)]) (v := .agg #[.int .i64 (ti ((span_both ((span_add_int64 x0 x1).1) ((span_add_int64 x0 x1).2.1) ((span_add_int64 x0 x1).2.2)).lo)), .int .i64 (ti ((span_both ((span_add_int64 x0 x1).1) ((span_add_int64 x0 x1).2.1) ((span_add_int64 x0 x1).2.2)).hi))]) (st_ups _ _) rfl rfl (by rfl) (fun x hx => by kernel_rfl) (by intro x hx; exact span_both_any ((span_add_int64 x0 x1).1) ((span_add_int64 x0 x1).2.1) ((span_add_int64 x0 x1).2.2) _) ?_
  simp only [List.set_cons_succ, List.set_cons_zero]
  refine lin_store (i := 4) (St w [⟨w.heap.size, [some (.int .i64 (ti (x0.lo))), some (.int .i64 (ti (x0.hi)))], 38⟩, ⟨w.heap.size + 1, [some (.int .i64 (ti (x1.lo))), some (.int .i64 (ti (x1.hi)))], 38⟩, ⟨w.heap.size + 2, [some (.int .i64 (ti ((span_both ((span_add_int64 x0 x1).1) ((span_add_int64 x0 x1).2.1) ((span_add_int64 x0 x1).2.2)).lo))), some (.int .i64 (ti ((span_both ((span_add_int64 x0 x1).1) ((span_add_int64 x0 x1).2.1) ((span_add_int64 x0 x1).2.2)).hi)))], 38⟩, ⟨k1, [some (.int .i64 (ti (((span_add_int64 x0 x1).1).lo))), some (.int .i64 (ti (((span_add_int64 x0 x1).1).hi)))], 92⟩]) rfl rfl (by rfl) (fun x => ((x.setCell ⟨w.heap.size + 2, 0, none⟩ (.int .i64 (ti ((span_both ((span_add_int64 x0 x1).1) ((span_add_int64 x0 x1).2.1) ((span_add_int64 x0 x1).2.2)).lo)))).setCell ⟨w.heap.size + 2, 1, none⟩ (.int .i64 (ti ((span_both ((span_add_int64 x0 x1).1) ((span_add_int64 x0 x1).2.1) ((span_add_int64 x0 x1).2.2)).hi))))) (by intro x hx; obtain ⟨u0, z0⟩ := hx.has 2 0 rfl (by simp); have q0 := hx.soft 2 0 rfl; obtain ⟨u1, z1⟩ := hx.has 2 1 rfl (by simp); have q1 := hx.soft 2 1 rfl; go_simp; (first | done | rfl)) (fun x hx => ((hx.put 2 0 (.int .i64 (ti ((span_both ((span_add_int64 x0 x1).1) ((span_add_int64 x0 x1).2.1) ((span_add_int64 x0 x1).2.2)).lo))) rfl).put 2 1 (.int .i64 (ti ((span_both ((span_add_int64 x0 x1).1) ((span_add_int64 x0 x1).2.1) ((span_add_int64 x0 x1).2.2)).hi))) rfl)) ?_
  refine lin_done ?_
  intro W2 hx
  replace HS := hid hx
  clear hx
  go_wp2
  have r0 := HS.out.load 2 0 rfl rfl
  have r1 := HS.out.load 2 1 rfl rfl
  have HF : span_Sadd x0 x1 = span_both ((span_add_int64 x0 x1).1) ((span_add_int64 x0 x1).2.1) ((span_add_int64 x0 x1).2.2) := by
    unfold span_Sadd
    rfl
  exact bodyPost_ret (v := .agg #[.int .i64 (ti ((span_both ((span_add_int64 x0 x1).1) ((span_add_int64 x0 x1).2.1) ((span_add_int64 x0 x1).2.2)).lo)), .int .i64 (ti ((span_both ((span_add_int64 x0 x1).1) ((span_add_int64 x0 x1).2.1) ((span_add_int64 x0 x1).2.2)).hi))]) (by simp [results, Try.results60, go_sem, r0, r1]) rfl ⟨(by first | (rw [HF]; done) | (rw [HF]; rfl)), HS.out.below⟩
set_option maxRecDepth 100000 in
set_option maxHeartbeats 1000000 in
theorem span_difference_int64_any (x0 : BitVec 64) (x1 : BitVec 64)  (w : World) :
    Calls Try.prog 119 #[.int .i64 (ti (x0)), .int .i64 (ti (x1))] w fun e w' => e = .returned (.tuple #[.int .i64 (ti (x0 - x1)), .bool (((leI (x0 - x1) x0) == (geI x1 0#64)))]) ∧ Below w.heap.size w w' := by
  go_enter Try.func119, Try.ntmps119
  have HS := hid (st_nil w)
  -- region 1
  go_upto_region 1 with fail
  refine lin_begin (St w []) rfl HS.out ?_
  refine lin_val (i := 0) (v := .int .i64 (ti (x0))) rfl rfl (by rfl) (by intro x hx; go_simp; (first | done | exact rfl)) ?_
  simp only [List.set_cons_succ, List.set_cons_zero]
  refine lin_val (i := 1) (v := .int .i64 (ti (x1))) rfl rfl (by rfl) (by intro x hx; go_simp; (first | done | exact rfl)) ?_
  simp only [List.set_cons_succ, List.set_cons_zero]
  refine lin_val (i := 2) (v := .int .i64 (ti (x0 - x1))) rfl rfl (by rfl) (by intro x hx; go_simp; (first | done | exact subIT x0 x1 | exact congrArg _ (subIT x0 x1) | (rw [subIT x0 x1]; done) | (rw [subIT x0 x1]; rfl))) ?_
  simp only [List.set_cons_succ, List.set_cons_zero]
  refine lin_val (i := 3) (v := .int .i64 (ti (x0 - x1))) rfl rfl (by rfl) (by intro x hx; go_simp; (first | done | exact rfl)) ?_
  simp only [List.set_cons_succ, List.set_cons_zero]
  refine lin_done ?_
  intro W1 hx
  replace HS := hid hx
  clear hx
  -- region 2
  go_upto_region 2 with fail
  refine lin_begin (St w []) rfl HS.out ?_
  refine lin_val (i := 0) (v := .int .i64 (ti (x0 - x1))) rfl rfl (by rfl) (by intro x hx; go_simp; (first | done | exact rfl)) ?_
  simp only [List.set_cons_succ, List.set_cons_zero]
  refine lin_val (i := 1) (v := .int .i64 (ti (x0 - x1))) rfl rfl (by rfl) (by intro x hx; go_simp; (first | done | exact rfl)) ?_
  simp only [List.set_cons_succ, List.set_cons_zero]
  refine lin_val (i := 2) (v := .int .i64 (ti (x0))) rfl rfl (by rfl) (by intro x hx; go_simp; (first | done | exact rfl)) ?_
  simp only [List.set_cons_succ, List.set_cons_zero]
  refine lin_val (i := 3) (v := .bool (leI (x0 - x1) x0)) rfl rfl (by rfl) (by intro x hx; go_simp; (first | done | exact leIT (x0 - x1) x0 | exact congrArg _ (leIT (x0 - x1) x0) | (rw [leIT (x0 - x1) x0]; done) | (rw [leIT (x0 - x1) x0]; rfl))) ?_
  simp only [List.set_cons_succ, List.set_cons_zero]
  refine lin_val (i := 4) (v := .int .i64 (ti (x1))) rfl rfl (by rfl) (by intro x hx; go_simp; (first | done | exact rfl)) ?_
  simp only [List.set_cons_succ, List.set_cons_zero]
  refine lin_val (i := 5) (v := .bool (geI x1 0#64)) rfl rfl (by rfl) (by intro x hx; go_simp; (first | done | exact geIT x1 0#64 | exact congrArg _ (geIT x1 0#64) | (rw [geIT x1 0#64]; done) | (rw [geIT x1 0#64]; rfl))) ?_
  simp only [List.set_cons_succ, List.set_cons_zero]
  refine lin_val (i := 6) (v := .bool (((leI (x0 - x1) x0) == (geI x1 0#64)))) rfl rfl (by rfl) (by intro x hx; go_simp; (first | done | exact rfl)) ?_
  simp only [List.set_cons_succ, List.set_cons_zero]
  refine lin_val (i := 7) (v := .int .i64 (ti (x0 - x1))) rfl rfl (by rfl) (by intro x hx; go_simp; (first | done | exact rfl)) ?_
  simp only [List.set_cons_succ, List.set_cons_zero]
  refine lin_val (i := 8) (v := .bool (((leI (x0 - x1) x0) == (geI x1 0#64)))) rfl rfl (by rfl) (by intro x hx; go_simp; (first | done | exact rfl)) ?_
  simp only [List.set_cons_succ, List.set_cons_zero]
  refine lin_done ?_
  intro W2 hx
  replace HS := hid hx
  clear hx
  go_wp2
  exact bodyPost_ret (v := .tuple #[.int .i64 (ti (x0 - x1)), .bool (((leI (x0 - x1) x0) == (geI x1 0#64)))]) (by simp [results, Try.results119, go_sem]) rfl ⟨rfl, HS.out.below⟩
def span_sub_int64 (x0 : P) (x1 : P) : P × Bool × Bool :=
  (P.mk (x0.lo - x1.hi) (x0.hi - x1.lo), ((leI (x0.lo - x1.hi) x0.lo) == (geI x1.hi 0#64)), ((leI (x0.hi - x1.lo) x0.hi) == (geI x1.lo 0#64)))
set_option maxRecDepth 100000 in
set_option maxHeartbeats 1000000 in
theorem span_sub_int64_any (x0 : P) (x1 : P)  (w : World) :
    Calls Try.prog 108 #[.agg #[.int .i64 (ti (x0.lo)), .int .i64 (ti (x0.hi))], .agg #[.int .i64 (ti (x1.lo)), .int .i64 (ti (x1.hi))]] w fun e w' => e = .returned (.tuple #[.agg #[.int .i64 (ti (((span_sub_int64 x0 x1).1).lo)), .int .i64 (ti (((span_sub_int64 x0 x1).1).hi))], .bool ((span_sub_int64 x0 x1).2.1), .bool ((span_sub_int64 x0 x1).2.2)]) ∧ Below w.heap.size w w' := by
  go_enter Try.func108, Try.ntmps108
  have HS := hid ((((st_nil w).alloc (k := w.heap.size) rfl [.int .i64 (ti (x0.lo)), .int .i64 (ti (x0.hi))] 92).alloc (k := w.heap.size + 1) (by simp) [.int .i64 (ti (x1.lo)), .int .i64 (ti (x1.hi))] 92).alloc (k := w.heap.size + 2) (by simp) [.int .i64 0, .int .i64 0] 92)
  -- region 1
  go_upto_region 1 with fail
  refine lin_begin (St w [⟨w.heap.size, [some (.int .i64 (ti (x0.lo))), some (.int .i64 (ti (x0.hi)))], 92⟩, ⟨w.heap.size + 1, [some (.int .i64 (ti (x1.lo))), some (.int .i64 (ti (x1.hi)))], 92⟩, ⟨w.heap.size + 2, [some (.int .i64 0), some (.int .i64 0)], 92⟩]) rfl HS.out ?_
  refine lin_val (i := 0) (v := .pointer (some ⟨w.heap.size, 0, none⟩)) rfl rfl (by rfl) (by intro x hx; go_simp; (first | done | exact rfl)) ?_
  simp only [List.set_cons_succ, List.set_cons_zero]
  refine lin_val (i := 1) (v := .int .i64 (ti (x0.lo))) rfl rfl (by rfl) (by intro x hx; have f0 := hx.load 0 0 rfl rfl; go_simp; (first | done | exact rfl)) ?_
  simp only [List.set_cons_succ, List.set_cons_zero]
  refine lin_val (i := 2) (v := .pointer (some ⟨w.heap.size + 1, 1, none⟩)) rfl rfl (by rfl) (by intro x hx; go_simp; (first | done | exact rfl)) ?_
  simp only [List.set_cons_succ, List.set_cons_zero]
  refine lin_val (i := 3) (v := .int .i64 (ti (x1.hi))) rfl rfl (by rfl) (by intro x hx; have f0 := hx.load 1 1 rfl rfl; go_simp; (first | done | exact rfl)) ?_
  simp only [List.set_cons_succ, List.set_cons_zero]
  refine lin_call (i := 4) (f := 119) (args := #[.int .i64 (ti (x0.lo)), .int .i64 (ti (x1.hi))]) (v := .tuple #[.int .i64 (ti (x0.lo - x1.hi)), .bool (((leI (x0.lo - x1.hi) x0.lo) == (geI x1.hi 0#64)))]) (st_ups _ _) rfl rfl (by rfl) (fun x hx => by kernel_rfl) (by intro x hx; exact span_difference_int64_any x0.lo x1.hi _) ?_
  simp only [List.set_cons_succ, List.set_cons_zero]
  refine lin_val (i := 5) (v := .tuple #[.int .i64 (ti (x0.lo - x1.hi)), .bool (((leI (x0.lo - x1.hi) x0.lo) == (geI x1.hi 0#64)))]) rfl rfl (by rfl) (by intro x hx; go_simp; (first | done | exact rfl)) ?_
  simp only [List.set_cons_succ, List.set_cons_zero]
  refine lin_val (i := 6) (v := .int .i64 (ti (x0.lo - x1.hi))) rfl rfl (by rfl) (by intro x hx; go_simp; (first | done | exact rfl)) ?_
  simp only [List.set_cons_succ, List.set_cons_zero]
  refine lin_val (i := 7) (v := .bool (((leI (x0.lo - x1.hi) x0.lo) == (geI x1.hi 0#64)))) rfl rfl (by rfl) (by intro x hx; go_simp; (first | done | exact rfl)) ?_
  simp only [List.set_cons_succ, List.set_cons_zero]
  refine lin_val (i := 8) (v := .pointer (some ⟨w.heap.size + 2, 0, none⟩)) rfl rfl (by rfl) (by intro x hx; go_simp; (first | done | exact rfl)) ?_
  simp only [List.set_cons_succ, List.set_cons_zero]
  refine lin_store (i := 9) (St w [⟨w.heap.size, [some (.int .i64 (ti (x0.lo))), some (.int .i64 (ti (x0.hi)))], 92⟩, ⟨w.heap.size + 1, [some (.int .i64 (ti (x1.lo))), some (.int .i64 (ti (x1.hi)))], 92⟩, ⟨w.heap.size + 2, [some (.int .i64 (ti (x0.lo - x1.hi))), some (.int .i64 0)], 92⟩]) rfl rfl (by rfl) (fun x => (x.setCell ⟨w.heap.size + 2, 0, none⟩ (.int .i64 (ti (x0.lo - x1.hi))))) (by intro x hx; obtain ⟨u0, z0⟩ := hx.has 2 0 rfl (by simp); have q0 := hx.soft 2 0 rfl; go_simp; (first | done | rfl)) (fun x hx => (hx.put 2 0 (.int .i64 (ti (x0.lo - x1.hi))) rfl)) ?_
  refine lin_val (i := 10) (v := .bool (((leI (x0.lo - x1.hi) x0.lo) == (geI x1.hi 0#64)))) rfl rfl (by rfl) (by intro x hx; go_simp; (first | done | exact rfl)) ?_
  simp only [List.set_cons_succ, List.set_cons_zero]
  refine lin_done ?_
  intro W1 hx
  replace HS := hid hx
  clear hx
  -- region 2
  go_upto_region 2 with fail
  refine lin_begin (St w [⟨w.heap.size, [some (.int .i64 (ti (x0.lo))), some (.int .i64 (ti (x0.hi)))], 92⟩, ⟨w.heap.size + 1, [some (.int .i64 (ti (x1.lo))), some (.int .i64 (ti (x1.hi)))], 92⟩, ⟨w.heap.size + 2, [some (.int .i64 (ti (x0.lo - x1.hi))), some (.int .i64 0)], 92⟩]) rfl HS.out ?_
  refine lin_val (i := 0) (v := .pointer (some ⟨w.heap.size, 1, none⟩)) rfl rfl (by rfl) (by intro x hx; go_simp; (first | done | exact rfl)) ?_
  simp only [List.set_cons_succ, List.set_cons_zero]
  refine lin_val (i := 1) (v := .int .i64 (ti (x0.hi))) rfl rfl (by rfl) (by intro x hx; have f0 := hx.load 0 1 rfl rfl; go_simp; (first | done | exact rfl)) ?_
  simp only [List.set_cons_succ, List.set_cons_zero]
  refine lin_val (i := 2) (v := .pointer (some ⟨w.heap.size + 1, 0, none⟩)) rfl rfl (by rfl) (by intro x hx; go_simp; (first | done | exact rfl)) ?_
  simp only [List.set_cons_succ, List.set_cons_zero]
  refine lin_val (i := 3) (v := .int .i64 (ti (x1.lo))) rfl rfl (by rfl) (by intro x hx; have f0 := hx.load 1 0 rfl rfl; go_simp; (first | done | exact rfl)) ?_
  simp only [List.set_cons_succ, List.set_cons_zero]
  refine lin_call (i := 4) (f := 119) (args := #[.int .i64 (ti (x0.hi)), .int .i64 (ti (x1.lo))]) (v := .tuple #[.int .i64 (ti (x0.hi - x1.lo)), .bool (((leI (x0.hi - x1.lo) x0.hi) == (geI x1.lo 0#64)))]) (st_ups _ _) rfl rfl (by rfl) (fun x hx => by kernel_rfl) (by intro x hx; exact span_difference_int64_any x0.hi x1.lo _) ?_
  simp only [List.set_cons_succ, List.set_cons_zero]
  refine lin_val (i := 5) (v := .tuple #[.int .i64 (ti (x0.hi - x1.lo)), .bool (((leI (x0.hi - x1.lo) x0.hi) == (geI x1.lo 0#64)))]) rfl rfl (by rfl) (by intro x hx; go_simp; (first | done | exact rfl)) ?_
  simp only [List.set_cons_succ, List.set_cons_zero]
  refine lin_val (i := 6) (v := .int .i64 (ti (x0.hi - x1.lo))) rfl rfl (by rfl) (by intro x hx; go_simp; (first | done | exact rfl)) ?_
  simp only [List.set_cons_succ, List.set_cons_zero]
  refine lin_val (i := 7) (v := .bool (((leI (x0.hi - x1.lo) x0.hi) == (geI x1.lo 0#64)))) rfl rfl (by rfl) (by intro x hx; go_simp; (first | done | exact rfl)) ?_
  simp only [List.set_cons_succ, List.set_cons_zero]
  refine lin_val (i := 8) (v := .pointer (some ⟨w.heap.size + 2, 1, none⟩)) rfl rfl (by rfl) (by intro x hx; go_simp; (first | done | exact rfl)) ?_
  simp only [List.set_cons_succ, List.set_cons_zero]
  refine lin_store (i := 9) (St w [⟨w.heap.size, [some (.int .i64 (ti (x0.lo))), some (.int .i64 (ti (x0.hi)))], 92⟩, ⟨w.heap.size + 1, [some (.int .i64 (ti (x1.lo))), some (.int .i64 (ti (x1.hi)))], 92⟩, ⟨w.heap.size + 2, [some (.int .i64 (ti (x0.lo - x1.hi))), some (.int .i64 (ti (x0.hi - x1.lo)))], 92⟩]) rfl rfl (by rfl) (fun x => (x.setCell ⟨w.heap.size + 2, 1, none⟩ (.int .i64 (ti (x0.hi - x1.lo))))) (by intro x hx; obtain ⟨u0, z0⟩ := hx.has 2 1 rfl (by simp); have q0 := hx.soft 2 1 rfl; go_simp; (first | done | rfl)) (fun x hx => (hx.put 2 1 (.int .i64 (ti (x0.hi - x1.lo))) rfl)) ?_
  refine lin_val (i := 10) (v := .bool (((leI (x0.hi - x1.lo) x0.hi) == (geI x1.lo 0#64)))) rfl rfl (by rfl) (by intro x hx; go_simp; (first | done | exact rfl)) ?_
  simp only [List.set_cons_succ, List.set_cons_zero]
  refine lin_done ?_
  intro W2 hx
  replace HS := hid hx
  clear hx
  -- region 3
  go_upto_region 3 with fail
  refine lin_begin (St w [⟨w.heap.size, [some (.int .i64 (ti (x0.lo))), some (.int .i64 (ti (x0.hi)))], 92⟩, ⟨w.heap.size + 1, [some (.int .i64 (ti (x1.lo))), some (.int .i64 (ti (x1.hi)))], 92⟩, ⟨w.heap.size + 2, [some (.int .i64 (ti (x0.lo - x1.hi))), some (.int .i64 (ti (x0.hi - x1.lo)))], 92⟩]) rfl HS.out ?_
  refine lin_val (i := 0) (v := .agg #[.int .i64 (ti (x0.lo - x1.hi)), .int .i64 (ti (x0.hi - x1.lo))]) rfl rfl (by rfl) (by intro x hx; have f0 := hx.load 2 0 rfl rfl; have f1 := hx.load 2 1 rfl rfl; go_simp; (first | done | exact rfl)) ?_
  simp only [List.set_cons_succ, List.set_cons_zero]
  refine lin_val (i := 1) (v := .bool (((leI (x0.lo - x1.hi) x0.lo) == (geI x1.hi 0#64)))) rfl rfl (by rfl) (by intro x hx; go_simp; (first | done | exact rfl)) ?_
  simp only [List.set_cons_succ, List.set_cons_zero]
  refine lin_val (i := 2) (v := .bool (((leI (x0.hi - x1.lo) x0.hi) == (geI x1.lo 0#64)))) rfl rfl (by rfl) (by intro x hx; go_simp; (first | done | exact rfl)) ?_
  simp only [List.set_cons_succ, List.set_cons_zero]
  refine lin_store (i := 3) (St w [⟨w.heap.size, [some (.int .i64 (ti (x0.lo))), some (.int .i64 (ti (x0.hi)))], 92⟩, ⟨w.heap.size + 1, [some (.int .i64 (ti (x1.lo))), some (.int .i64 (ti (x1.hi)))], 92⟩, ⟨w.heap.size + 2, [some (.int .i64 (ti (x0.lo - x1.hi))), some (.int .i64 (ti (x0.hi - x1.lo)))], 92⟩]) rfl rfl (by rfl) (fun x => ((x.setCell ⟨w.heap.size + 2, 0, none⟩ (.int .i64 (ti (x0.lo - x1.hi)))).setCell ⟨w.heap.size + 2, 1, none⟩ (.int .i64 (ti (x0.hi - x1.lo))))) (by intro x hx; obtain ⟨u0, z0⟩ := hx.has 2 0 rfl (by simp); have q0 := hx.soft 2 0 rfl; obtain ⟨u1, z1⟩ := hx.has 2 1 rfl (by simp); have q1 := hx.soft 2 1 rfl; go_simp; (first | done | rfl)) (fun x hx => ((hx.put 2 0 (.int .i64 (ti (x0.lo - x1.hi))) rfl).put 2 1 (.int .i64 (ti (x0.hi - x1.lo))) rfl)) ?_
  refine lin_val (i := 4) (v := .bool (((leI (x0.lo - x1.hi) x0.lo) == (geI x1.hi 0#64)))) rfl rfl (by rfl) (by intro x hx; go_simp; (first | done | exact rfl)) ?_
  simp only [List.set_cons_succ, List.set_cons_zero]
  refine lin_val (i := 5) (v := .bool (((leI (x0.hi - x1.lo) x0.hi) == (geI x1.lo 0#64)))) rfl rfl (by rfl) (by intro x hx; go_simp; (first | done | exact rfl)) ?_
  simp only [List.set_cons_succ, List.set_cons_zero]
  refine lin_done ?_
  intro W3 hx
  replace HS := hid hx
  clear hx
  go_wp2
  have r0 := HS.out.load 2 0 rfl rfl
  have r1 := HS.out.load 2 1 rfl rfl
  have HF : span_sub_int64 x0 x1 = (P.mk (x0.lo - x1.hi) (x0.hi - x1.lo), ((leI (x0.lo - x1.hi) x0.lo) == (geI x1.hi 0#64)), ((leI (x0.hi - x1.lo) x0.hi) == (geI x1.lo 0#64))) := by
    unfold span_sub_int64
    rfl
  exact bodyPost_ret (v := .tuple #[.agg #[.int .i64 (ti (x0.lo - x1.hi)), .int .i64 (ti (x0.hi - x1.lo))], .bool (((leI (x0.lo - x1.hi) x0.lo) == (geI x1.hi 0#64))), .bool (((leI (x0.hi - x1.lo) x0.hi) == (geI x1.lo 0#64)))]) (by simp [results, Try.results108, go_sem, r0, r1]) rfl ⟨(by first | (rw [HF]; done) | (rw [HF]; rfl)), HS.out.below⟩
def span_Ssub (x0 : P) (x1 : P) : P :=
  span_both ((span_sub_int64 x0 x1).1) ((span_sub_int64 x0 x1).2.1) ((span_sub_int64 x0 x1).2.2)
set_option maxRecDepth 100000 in
set_option maxHeartbeats 1000000 in
theorem span_Ssub_any (x0 : P) (x1 : P)  (w : World) :
    Calls Try.prog 62 #[.agg #[.int .i64 (ti (x0.lo)), .int .i64 (ti (x0.hi))], .agg #[.int .i64 (ti (x1.lo)), .int .i64 (ti (x1.hi))]] w fun e w' => e = .returned (.agg #[.int .i64 (ti ((span_Ssub x0 x1).lo)), .int .i64 (ti ((span_Ssub x0 x1).hi))]) ∧ Below w.heap.size w w' := by
  go_enter Try.func62, Try.ntmps62
  have HS := hid ((((st_nil w).alloc (k := w.heap.size) rfl [.int .i64 (ti (x0.lo)), .int .i64 (ti (x0.hi))] 38).alloc (k := w.heap.size + 1) (by simp) [.int .i64 (ti (x1.lo)), .int .i64 (ti (x1.hi))] 38).alloc (k := w.heap.size + 2) (by simp) [.int .i64 0, .int .i64 0] 38)
  -- region 1
  go_upto_region 1 with fail
  refine up_begin (St w [⟨w.heap.size, [some (.int .i64 (ti (x0.lo))), some (.int .i64 (ti (x0.hi)))], 38⟩, ⟨w.heap.size + 1, [some (.int .i64 (ti (x1.lo))), some (.int .i64 (ti (x1.hi)))], 38⟩, ⟨w.heap.size + 2, [some (.int .i64 0), some (.int .i64 0)], 38⟩]) 13 rfl (by kernel_rfl) (HS.out.drew) ?_
  refine take_val (i := 0) (v := .agg #[.int .i64 (ti (x0.lo)), .int .i64 (ti (x0.hi))]) (st_ups _ _) rfl rfl (by kernel_rfl) (fun _ _ _ h => h) (by rfl) (by intro x hx; have f0 := hx.load 0 0 rfl rfl; have f1 := hx.load 0 1 rfl rfl; go_simp; (first | done | exact rfl)) ?_
  simp only [List.set_cons_succ, List.set_cons_zero]
  refine take_call (i := 1) (f := 100) (args := #[.agg #[.int .i64 (ti (x0.lo)), .int .i64 (ti (x0.hi))]]) (v := .agg #[.int .i64 (ti (x0.lo)), .int .i64 (ti (x0.hi))]) (st_ups _ _) rfl rfl (by kernel_rfl) (fun _ _ _ h => h) (by rfl) (fun x hx => by kernel_rfl) (by intro x hx; exact span_signed_any x0 _) ?_
  simp only [List.set_cons_succ, List.set_cons_zero]
  refine take_val (i := 2) (v := .agg #[.int .i64 (ti (x1.lo)), .int .i64 (ti (x1.hi))]) (st_ups _ _) rfl rfl (by kernel_rfl) (fun _ _ _ h => h) (by rfl) (by intro x hx; have f0 := hx.load 1 0 rfl rfl; have f1 := hx.load 1 1 rfl rfl; go_simp; (first | done | exact rfl)) ?_
  simp only [List.set_cons_succ, List.set_cons_zero]
  refine take_call (i := 3) (f := 100) (args := #[.agg #[.int .i64 (ti (x1.lo)), .int .i64 (ti (x1.hi))]]) (v := .agg #[.int .i64 (ti (x1.lo)), .int .i64 (ti (x1.hi))]) (st_ups _ _) rfl rfl (by kernel_rfl) (fun _ _ _ h => h) (by rfl) (fun x hx => by kernel_rfl) (by intro x hx; exact span_signed_any x1 _) ?_
  simp only [List.set_cons_succ, List.set_cons_zero]
  refine take_call (i := 4) (f := 108) (args := #[.agg #[.int .i64 (ti (x0.lo)), .int .i64 (ti (x0.hi))], .agg #[.int .i64 (ti (x1.lo)), .int .i64 (ti (x1.hi))]]) (v := .tuple #[.agg #[.int .i64 (ti (((span_sub_int64 x0 x1).1).lo)), .int .i64 (ti (((span_sub_int64 x0 x1).1).hi))], .bool ((span_sub_int64 x0 x1).2.1), .bool ((span_sub_int64 x0 x1).2.2)]) (st_ups _ _) rfl rfl (by kernel_rfl) (fun _ _ _ h => h) (by rfl) (fun x hx => by kernel_rfl) (by intro x hx; exact span_sub_int64_any x0 x1 _) ?_
  simp only [List.set_cons_succ, List.set_cons_zero]
  refine take_val (i := 5) (v := .tuple #[.agg #[.int .i64 (ti (((span_sub_int64 x0 x1).1).lo)), .int .i64 (ti (((span_sub_int64 x0 x1).1).hi))], .bool ((span_sub_int64 x0 x1).2.1), .bool ((span_sub_int64 x0 x1).2.2)]) (st_ups _ _) rfl rfl (by kernel_rfl) (fun _ _ _ h => h) (by rfl) (by intro x hx; go_simp; (first | done | exact rfl)) ?_
  simp only [List.set_cons_succ, List.set_cons_zero]
  refine take_val (i := 6) (v := .agg #[.int .i64 (ti (((span_sub_int64 x0 x1).1).lo)), .int .i64 (ti (((span_sub_int64 x0 x1).1).hi))]) (st_ups _ _) rfl rfl (by kernel_rfl) (fun _ _ _ h => h) (by rfl) (by intro x hx; go_simp; (first | done | exact rfl)) ?_
  simp only [List.set_cons_succ, List.set_cons_zero]
  refine take_val (i := 7) (v := .bool ((span_sub_int64 x0 x1).2.1)) (st_ups _ _) rfl rfl (by kernel_rfl) (fun _ _ _ h => h) (by rfl) (by intro x hx; go_simp; (first | done | exact rfl)) ?_
  simp only [List.set_cons_succ, List.set_cons_zero]
  refine take_val (i := 8) (v := .bool ((span_sub_int64 x0 x1).2.2)) (st_ups _ _) rfl rfl (by kernel_rfl) (fun _ _ _ h => h) (by rfl) (by intro x hx; go_simp; (first | done | exact rfl)) ?_
  simp only [List.set_cons_succ, List.set_cons_zero]
  refine take_one (i := 9) (by kernel_rfl) (step_new rfl rfl (by rfl) [.int .i64 0, .int .i64 0] 92 (fun k => .pointer (some ⟨k, 0, none⟩)) [none, none] (lessC_no (lessC_no (trivial))) (by intro x hx; go_simp; (first | done | exact rfl)) (fun k1 => ?_))
  simp only [List.set_cons_succ, List.set_cons_zero]
  refine take_one (i := 10) (by kernel_rfl) (step_store (St w [⟨w.heap.size, [some (.int .i64 (ti (x0.lo))), some (.int .i64 (ti (x0.hi)))], 38⟩, ⟨w.heap.size + 1, [some (.int .i64 (ti (x1.lo))), some (.int .i64 (ti (x1.hi)))], 38⟩, ⟨w.heap.size + 2, [some (.int .i64 0), some (.int .i64 0)], 38⟩, ⟨k1, [some (.int .i64 (ti (((span_sub_int64 x0 x1).1).lo))), some (.int .i64 (ti (((span_sub_int64 x0 x1).1).hi)))], 92⟩]) (st_ups _ _) (fun x h => h.less (less_cons rfl rfl (lessC_eq (lessC_eq (trivial))) (less_cons rfl rfl (lessC_eq (lessC_eq (trivial))) (less_cons rfl rfl (lessC_eq (lessC_eq (trivial))) (less_cons rfl rfl (lessC_no (lessC_no (trivial))) (trivial)))))) rfl rfl (by rfl) (fun x => ((x.setCell ⟨k1, 0, none⟩ (.int .i64 (ti (((span_sub_int64 x0 x1).1).lo)))).setCell ⟨k1, 1, none⟩ (.int .i64 (ti (((span_sub_int64 x0 x1).1).hi))))) (by intro x hx; obtain ⟨u0, z0⟩ := hx.has 3 0 rfl (by simp); have q0 := hx.soft 3 0 rfl; obtain ⟨u1, z1⟩ := hx.has 3 1 rfl (by simp); have q1 := hx.soft 3 1 rfl; go_simp; (first | done | rfl)) (fun x hx => ((hx.put 3 0 (.int .i64 (ti (((span_sub_int64 x0 x1).1).lo))) rfl).put 3 1 (.int .i64 (ti (((span_sub_int64 x0 x1).1).hi))) rfl)) ?_)
  refine take_val (i := 11) (v := .bool ((span_sub_int64 x0 x1).2.1)) (st_ups _ _) rfl rfl (by kernel_rfl) (fun _ _ _ h => h) (by rfl) (by intro x hx; go_simp; (first | done | exact rfl)) ?_
  simp only [List.set_cons_succ, List.set_cons_zero]
  refine take_val (i := 12) (v := .bool ((span_sub_int64 x0 x1).2.2)) (st_ups _ _) rfl rfl (by kernel_rfl) (fun _ _ _ h => h) (by rfl) (by intro x hx; go_simp; (first | done | exact rfl)) ?_
  simp only [List.set_cons_succ, List.set_cons_zero]
  refine take_done (by kernel_rfl) ?_ _
  intro W1 hx
  replace HS := hid hx
  clear hx
  -- region 2
  go_upto_region 2 with fail
  refine lin_begin (St w [⟨w.heap.size, [some (.int .i64 (ti (x0.lo))), some (.int .i64 (ti (x0.hi)))], 38⟩, ⟨w.heap.size + 1, [some (.int .i64 (ti (x1.lo))), some (.int .i64 (ti (x1.hi)))], 38⟩, ⟨w.heap.size + 2, [some (.int .i64 0), some (.int .i64 0)], 38⟩, ⟨k1, [some (.int .i64 (ti (((span_sub_int64 x0 x1).1).lo))), some (.int .i64 (ti (((span_sub_int64 x0 x1).1).hi)))], 92⟩]) rfl HS.out ?_
  refine lin_val (i := 0) (v := .agg #[.int .i64 (ti (((span_sub_int64 x0 x1).1).lo)), .int .i64 (ti (((span_sub_int64 x0 x1).1).hi))]) rfl rfl (by rfl) (by intro x hx; have f0 := hx.load 3 0 rfl rfl; have f1 := hx.load 3 1 rfl rfl; go_simp; (first | done | exact rfl)) ?_
  simp only [List.set_cons_succ, List.set_cons_zero]
  refine lin_val (i := 1) (v := .bool ((span_sub_int64 x0 x1).2.1)) rfl rfl (by rfl) (by intro x hx; go_simp; (first | done | exact rfl)) ?_
  simp only [List.set_cons_succ, List.set_cons_zero]
  refine lin_val (i := 2) (v := .bool ((span_sub_int64 x0 x1).2.2)) rfl rfl (by rfl) (by intro x hx; go_simp; (first | done | exact rfl)) ?_
  simp only [List.set_cons_succ, List.set_cons_zero]
  refine lin_call (i := 3) (f := 106) (args := #[.agg #[.int .i64 (ti (((span_sub_int64 x0 x1).1).lo)), .int .i64 (ti (((span_sub_int64 x0 x1).1).hi))], .bool ((span_sub_int64 x0 x1).2.1), .bool ((span_sub_int64 x0 x1).2.2)]) (v := .agg #[.int .i64 (ti ((span_both ((span_sub_int64 x0 x1).1) ((span_sub_int64 x0 x1).2.1) ((span_sub_int64 x0 x1).2.2)).lo)), .int .i64 (ti ((span_both ((span_sub_int64 x0 x1).1) ((span_sub_int64 x0 x1).2.1) ((span_sub_int64 x0 x1).2.2)).hi))]) (st_ups _ _) rfl rfl (by rfl) (fun x hx => by kernel_rfl) (by intro x hx; exact span_both_any ((span_sub_int64 x0 x1).1) ((span_sub_int64 x0 x1).2.1) ((span_sub_int64 x0 x1).2.2) _) ?_
  simp only [List.set_cons_succ, List.set_cons_zero]
  refine lin_store (i := 4) (St w [⟨w.heap.size, [some (.int .i64 (ti (x0.lo))), some (.int .i64 (ti (x0.hi)))], 38⟩, ⟨w.heap.size + 1, [some (.int .i64 (ti (x1.lo))), some (.int .i64 (ti (x1.hi)))], 38⟩, ⟨w.heap.size + 2, [some (.int .i64 (ti ((span_both ((span_sub_int64 x0 x1).1) ((span_sub_int64 x0 x1).2.1) ((span_sub_int64 x0 x1).2.2)).lo))), some (.int .i64 (ti ((span_both ((span_sub_int64 x0 x1).1) ((span_sub_int64 x0 x1).2.1) ((span_sub_int64 x0 x1).2.2)).hi)))], 38⟩, ⟨k1, [some (.int .i64 (ti (((span_sub_int64 x0 x1).1).lo))), some (.int .i64 (ti (((span_sub_int64 x0 x1).1).hi)))], 92⟩]) rfl rfl (by rfl) (fun x => ((x.setCell ⟨w.heap.size + 2, 0, none⟩ (.int .i64 (ti ((span_both ((span_sub_int64 x0 x1).1) ((span_sub_int64 x0 x1).2.1) ((span_sub_int64 x0 x1).2.2)).lo)))).setCell ⟨w.heap.size + 2, 1, none⟩ (.int .i64 (ti ((span_both ((span_sub_int64 x0 x1).1) ((span_sub_int64 x0 x1).2.1) ((span_sub_int64 x0 x1).2.2)).hi))))) (by intro x hx; obtain ⟨u0, z0⟩ := hx.has 2 0 rfl (by simp); have q0 := hx.soft 2 0 rfl; obtain ⟨u1, z1⟩ := hx.has 2 1 rfl (by simp); have q1 := hx.soft 2 1 rfl; go_simp; (first | done | rfl)) (fun x hx => ((hx.put 2 0 (.int .i64 (ti ((span_both ((span_sub_int64 x0 x1).1) ((span_sub_int64 x0 x1).2.1) ((span_sub_int64 x0 x1).2.2)).lo))) rfl).put 2 1 (.int .i64 (ti ((span_both ((span_sub_int64 x0 x1).1) ((span_sub_int64 x0 x1).2.1) ((span_sub_int64 x0 x1).2.2)).hi))) rfl)) ?_
  refine lin_done ?_
  intro W2 hx
  replace HS := hid hx
  clear hx
  go_wp2
  have r0 := HS.out.load 2 0 rfl rfl
  have r1 := HS.out.load 2 1 rfl rfl
  have HF : span_Ssub x0 x1 = span_both ((span_sub_int64 x0 x1).1) ((span_sub_int64 x0 x1).2.1) ((span_sub_int64 x0 x1).2.2) := by
    unfold span_Ssub
    rfl
  exact bodyPost_ret (v := .agg #[.int .i64 (ti ((span_both ((span_sub_int64 x0 x1).1) ((span_sub_int64 x0 x1).2.1) ((span_sub_int64 x0 x1).2.2)).lo)), .int .i64 (ti ((span_both ((span_sub_int64 x0 x1).1) ((span_sub_int64 x0 x1).2.1) ((span_sub_int64 x0 x1).2.2)).hi))]) (by simp [results, Try.results62, go_sem, r0, r1]) rfl ⟨(by first | (rw [HF]; done) | (rw [HF]; rfl)), HS.out.below⟩
def span_Scut (x0 : P) : P :=
  bif (!(span_within_int64 x0 (P.mk 18446744071562067968#64 2147483647#64))) then (P.mk 18446744071562067968#64 2147483647#64) else (x0)
set_option maxRecDepth 100000 in
set_option maxHeartbeats 1000000 in
theorem span_Scut_any (x0 : P)  (w : World) :
    Calls Try.prog 66 #[.agg #[.int .i64 (ti (x0.lo)), .int .i64 (ti (x0.hi))]] w fun e w' => e = .returned (.agg #[.int .i64 (ti ((span_Scut x0).lo)), .int .i64 (ti ((span_Scut x0).hi))]) ∧ Below w.heap.size w w' := by
  go_enter Try.func66, Try.ntmps66
  have HS := hid (((st_nil w).alloc (k := w.heap.size) rfl [.int .i64 (ti (x0.lo)), .int .i64 (ti (x0.hi))] 38).alloc (k := w.heap.size + 1) (by simp) [.int .i64 0, .int .i64 0] 38)
  -- region 1
  go_upto_region 1 with fail
  refine lin_begin (St w [⟨w.heap.size, [some (.int .i64 (ti (x0.lo))), some (.int .i64 (ti (x0.hi)))], 38⟩, ⟨w.heap.size + 1, [some (.int .i64 0), some (.int .i64 0)], 38⟩]) rfl HS.out ?_
  refine lin_val (i := 0) (v := .agg #[.int .i64 (-2147483648), .int .i64 2147483647]) rfl rfl (by rfl) (by intro x hx; go_simp; (first | done | exact rfl)) ?_
  simp only [List.set_cons_succ, List.set_cons_zero]
  refine lin_new (i := 1) rfl rfl (by rfl) [.int .i64 0, .int .i64 0] 38 (fun k => .pointer (some ⟨k, 0, none⟩)) [some (.int .i64 0), some (.int .i64 0)] (lessC_eq (lessC_eq (trivial))) (by intro x hx; go_simp; (first | done | exact rfl)) (fun k1 => ?_)
  simp only [List.set_cons_succ, List.set_cons_zero]
  refine lin_store (i := 2) (St w [⟨w.heap.size, [some (.int .i64 (ti (x0.lo))), some (.int .i64 (ti (x0.hi)))], 38⟩, ⟨w.heap.size + 1, [some (.int .i64 0), some (.int .i64 0)], 38⟩, ⟨k1, [some (.int .i64 (-2147483648)), some (.int .i64 2147483647)], 38⟩]) rfl rfl (by rfl) (fun x => ((x.setCell ⟨k1, 0, none⟩ (.int .i64 (-2147483648))).setCell ⟨k1, 1, none⟩ (.int .i64 2147483647))) (by intro x hx; obtain ⟨u0, z0⟩ := hx.has 2 0 rfl (by simp); have q0 := hx.soft 2 0 rfl; obtain ⟨u1, z1⟩ := hx.has 2 1 rfl (by simp); have q1 := hx.soft 2 1 rfl; go_simp; (first | done | rfl)) (fun x hx => ((hx.put 2 0 (.int .i64 (-2147483648)) rfl).put 2 1 (.int .i64 2147483647) rfl)) ?_
  refine lin_done ?_
  intro W1 hx
  replace HS := hid hx
  clear hx
  -- region 2
  go_upto_region 2 with fail
  refine lin_begin (St w [⟨w.heap.size, [some (.int .i64 (ti (x0.lo))), some (.int .i64 (ti (x0.hi)))], 38⟩, ⟨w.heap.size + 1, [some (.int .i64 0), some (.int .i64 0)], 38⟩, ⟨k1, [some (.int .i64 (-2147483648)), some (.int .i64 2147483647)], 38⟩]) rfl HS.out ?_
  refine lin_val (i := 0) (v := .agg #[.int .i64 (ti (x0.lo)), .int .i64 (ti (x0.hi))]) rfl rfl (by rfl) (by intro x hx; have f0 := hx.load 0 0 rfl rfl; have f1 := hx.load 0 1 rfl rfl; go_simp; (first | done | exact rfl)) ?_
  simp only [List.set_cons_succ, List.set_cons_zero]
  refine lin_val (i := 1) (v := .agg #[.int .i64 (-2147483648), .int .i64 2147483647]) rfl rfl (by rfl) (by intro x hx; have f0 := hx.load 2 0 rfl rfl; have f1 := hx.load 2 1 rfl rfl; go_simp; (first | done | exact rfl)) ?_
  simp only [List.set_cons_succ, List.set_cons_zero]
  refine lin_call (i := 2) (f := 56) (args := #[.agg #[.int .i64 (ti (x0.lo)), .int .i64 (ti (x0.hi))], .agg #[.int .i64 (ti (18446744071562067968#64)), .int .i64 (ti (2147483647#64))]]) (v := .bool (span_within_int64 x0 (P.mk 18446744071562067968#64 2147483647#64))) (st_ups _ _) rfl rfl (by rfl) (fun x hx => by kernel_rfl) (by intro x hx; exact span_Swithin_any x0 (P.mk 18446744071562067968#64 2147483647#64) _) ?_
  simp only [List.set_cons_succ, List.set_cons_zero]
  refine lin_val (i := 3) (v := .bool ((!(span_within_int64 x0 (P.mk 18446744071562067968#64 2147483647#64))))) rfl rfl (by rfl) (by intro x hx; go_simp; (first | done | exact rfl)) ?_
  simp only [List.set_cons_succ, List.set_cons_zero]
  refine lin_done ?_
  intro W2 hx
  replace HS := hid hx
  clear hx
  cases h1 : ((!(span_within_int64 x0 (P.mk 18446744071562067968#64 2147483647#64))))
  · replace h1 := hid h1
    -- region 4
    go_upto_region 4 with fail
    refine lin_begin (St w [⟨w.heap.size, [some (.int .i64 (ti (x0.lo))), some (.int .i64 (ti (x0.hi)))], 38⟩, ⟨w.heap.size + 1, [some (.int .i64 0), some (.int .i64 0)], 38⟩, ⟨k1, [some (.int .i64 (-2147483648)), some (.int .i64 2147483647)], 38⟩]) rfl HS.out ?_
    refine lin_val (i := 0) (v := .agg #[.int .i64 (ti (x0.lo)), .int .i64 (ti (x0.hi))]) rfl rfl (by rfl) (by intro x hx; have f0 := hx.load 0 0 rfl rfl; have f1 := hx.load 0 1 rfl rfl; go_simp; (first | done | exact rfl)) ?_
    simp only [List.set_cons_succ, List.set_cons_zero]
    refine lin_store (i := 1) (St w [⟨w.heap.size, [some (.int .i64 (ti (x0.lo))), some (.int .i64 (ti (x0.hi)))], 38⟩, ⟨w.heap.size + 1, [some (.int .i64 (ti (x0.lo))), some (.int .i64 (ti (x0.hi)))], 38⟩, ⟨k1, [some (.int .i64 (-2147483648)), some (.int .i64 2147483647)], 38⟩]) rfl rfl (by rfl) (fun x => ((x.setCell ⟨w.heap.size + 1, 0, none⟩ (.int .i64 (ti (x0.lo)))).setCell ⟨w.heap.size + 1, 1, none⟩ (.int .i64 (ti (x0.hi))))) (by intro x hx; obtain ⟨u0, z0⟩ := hx.has 1 0 rfl (by simp); have q0 := hx.soft 1 0 rfl; obtain ⟨u1, z1⟩ := hx.has 1 1 rfl (by simp); have q1 := hx.soft 1 1 rfl; go_simp; (first | done | rfl)) (fun x hx => ((hx.put 1 0 (.int .i64 (ti (x0.lo))) rfl).put 1 1 (.int .i64 (ti (x0.hi))) rfl)) ?_
    refine lin_done ?_
    intro W3 hx
    replace HS := hid hx
    clear hx
    go_wp2
    have r0 := HS.out.load 1 0 rfl rfl
    have r1 := HS.out.load 1 1 rfl rfl
    have HF : span_Scut x0 = x0 := by
      unfold span_Scut
      rw [cond_f h1.out]
    exact bodyPost_ret (v := .agg #[.int .i64 (ti (x0.lo)), .int .i64 (ti (x0.hi))]) (by simp [results, Try.results66, go_sem, r0, r1]) rfl ⟨(by first | (rw [HF]; done) | (rw [HF]; rfl)), HS.out.below⟩
  · replace h1 := hid h1
    -- region 3
    go_upto_region 3 with fail
    refine lin_begin (St w [⟨w.heap.size, [some (.int .i64 (ti (x0.lo))), some (.int .i64 (ti (x0.hi)))], 38⟩, ⟨w.heap.size + 1, [some (.int .i64 0), some (.int .i64 0)], 38⟩, ⟨k1, [some (.int .i64 (-2147483648)), some (.int .i64 2147483647)], 38⟩]) rfl HS.out ?_
    refine lin_val (i := 0) (v := .agg #[.int .i64 (-2147483648), .int .i64 2147483647]) rfl rfl (by rfl) (by intro x hx; have f0 := hx.load 2 0 rfl rfl; have f1 := hx.load 2 1 rfl rfl; go_simp; (first | done | exact rfl)) ?_
    simp only [List.set_cons_succ, List.set_cons_zero]
    refine lin_store (i := 1) (St w [⟨w.heap.size, [some (.int .i64 (ti (x0.lo))), some (.int .i64 (ti (x0.hi)))], 38⟩, ⟨w.heap.size + 1, [some (.int .i64 (-2147483648)), some (.int .i64 2147483647)], 38⟩, ⟨k1, [some (.int .i64 (-2147483648)), some (.int .i64 2147483647)], 38⟩]) rfl rfl (by rfl) (fun x => ((x.setCell ⟨w.heap.size + 1, 0, none⟩ (.int .i64 (-2147483648))).setCell ⟨w.heap.size + 1, 1, none⟩ (.int .i64 2147483647))) (by intro x hx; obtain ⟨u0, z0⟩ := hx.has 1 0 rfl (by simp); have q0 := hx.soft 1 0 rfl; obtain ⟨u1, z1⟩ := hx.has 1 1 rfl (by simp); have q1 := hx.soft 1 1 rfl; go_simp; (first | done | rfl)) (fun x hx => ((hx.put 1 0 (.int .i64 (-2147483648)) rfl).put 1 1 (.int .i64 2147483647) rfl)) ?_
    refine lin_done ?_
    intro W3 hx
    replace HS := hid hx
    clear hx
    go_wp2
    have r0 := HS.out.load 1 0 rfl rfl
    have r1 := HS.out.load 1 1 rfl rfl
    have HF : span_Scut x0 = P.mk 18446744071562067968#64 2147483647#64 := by
      unfold span_Scut
      rw [cond_t h1.out]
    exact bodyPost_ret (v := .agg #[.int .i64 (-2147483648), .int .i64 2147483647]) (by simp [results, Try.results66, go_sem, r0, r1]) rfl ⟨(by first | (rw [HF]; done) | (rw [HF]; rfl)), HS.out.below⟩
def span_turned_int64_uint64 (x0 : P) : P × Bool :=
  bif ltI (x0.lo ^^^ x0.hi) 0#64 then ((P.mk 0#64 0#64, false)) else ((x0, true))
set_option maxRecDepth 100000 in
set_option maxHeartbeats 1000000 in
theorem span_turned_int64_uint64_any (x0 : P)  (w : World) :
    Calls Try.prog 112 #[.agg #[.int .u64 (tn (x0.lo)), .int .u64 (tn (x0.hi))]] w fun e w' => e = .returned (.tuple #[.agg #[.int .i64 (ti (((span_turned_int64_uint64 x0).1).lo)), .int .i64 (ti (((span_turned_int64_uint64 x0).1).hi))], .bool ((span_turned_int64_uint64 x0).2)]) ∧ Below w.heap.size w w' := by
  go_enter Try.func112, Try.ntmps112
  have HS := hid (((st_nil w).alloc (k := w.heap.size) rfl [.int .u64 (tn (x0.lo)), .int .u64 (tn (x0.hi))] 71).alloc (k := w.heap.size + 1) (by simp) [.int .i64 0, .int .i64 0] 92)
  -- region 1
  go_upto_region 1 with fail
  refine lin_begin (St w [⟨w.heap.size, [some (.int .u64 (tn (x0.lo))), some (.int .u64 (tn (x0.hi)))], 71⟩, ⟨w.heap.size + 1, [some (.int .i64 0), some (.int .i64 0)], 92⟩]) rfl HS.out ?_
  refine lin_val (i := 0) (v := .pointer (some ⟨w.heap.size, 0, none⟩)) rfl rfl (by rfl) (by intro x hx; go_simp; (first | done | exact rfl)) ?_
  simp only [List.set_cons_succ, List.set_cons_zero]
  refine lin_val (i := 1) (v := .int .u64 (tn (x0.lo))) rfl rfl (by rfl) (by intro x hx; have f0 := hx.load 0 0 rfl rfl; go_simp; (first | done | exact rfl)) ?_
  simp only [List.set_cons_succ, List.set_cons_zero]
  refine lin_val (i := 2) (v := .pointer (some ⟨w.heap.size, 1, none⟩)) rfl rfl (by rfl) (by intro x hx; go_simp; (first | done | exact rfl)) ?_
  simp only [List.set_cons_succ, List.set_cons_zero]
  refine lin_val (i := 3) (v := .int .u64 (tn (x0.hi))) rfl rfl (by rfl) (by intro x hx; have f0 := hx.load 0 1 rfl rfl; go_simp; (first | done | exact rfl)) ?_
  simp only [List.set_cons_succ, List.set_cons_zero]
  refine lin_val (i := 4) (v := .int .u64 (tn (x0.lo ^^^ x0.hi))) rfl rfl (by rfl) (by intro x hx; go_simp; (first | done | exact xorUT x0.lo x0.hi | exact congrArg _ (xorUT x0.lo x0.hi) | (rw [xorUT x0.lo x0.hi]; done) | (rw [xorUT x0.lo x0.hi]; rfl))) ?_
  simp only [List.set_cons_succ, List.set_cons_zero]
  refine lin_val (i := 5) (v := .int .i64 (ti (x0.lo ^^^ x0.hi))) rfl rfl (by rfl) (by intro x hx; go_simp; (first | done | exact toI64 (x0.lo ^^^ x0.hi) | exact congrArg _ (toI64 (x0.lo ^^^ x0.hi)) | (rw [toI64 (x0.lo ^^^ x0.hi)]; done) | (rw [toI64 (x0.lo ^^^ x0.hi)]; rfl))) ?_
  simp only [List.set_cons_succ, List.set_cons_zero]
  refine lin_val (i := 6) (v := .bool (ltI (x0.lo ^^^ x0.hi) 0#64)) rfl rfl (by rfl) (by intro x hx; go_simp; (first | done | exact ltIT (x0.lo ^^^ x0.hi) 0#64 | exact congrArg _ (ltIT (x0.lo ^^^ x0.hi) 0#64) | (rw [ltIT (x0.lo ^^^ x0.hi) 0#64]; done) | (rw [ltIT (x0.lo ^^^ x0.hi) 0#64]; rfl))) ?_
  simp only [List.set_cons_succ, List.set_cons_zero]
  refine lin_done ?_
  intro W1 hx
  replace HS := hid hx
  clear hx
  cases h1 : (ltI (x0.lo ^^^ x0.hi) 0#64)
  · replace h1 := hid h1
    -- region 3
    go_upto_region 3 with fail
    refine lin_begin (St w [⟨w.heap.size, [some (.int .u64 (tn (x0.lo))), some (.int .u64 (tn (x0.hi)))], 71⟩, ⟨w.heap.size + 1, [some (.int .i64 0), some (.int .i64 0)], 92⟩]) rfl HS.out ?_
    refine lin_val (i := 0) (v := .pointer (some ⟨w.heap.size, 0, none⟩)) rfl rfl (by rfl) (by intro x hx; go_simp; (first | done | exact rfl)) ?_
    simp only [List.set_cons_succ, List.set_cons_zero]
    refine lin_val (i := 1) (v := .int .u64 (tn (x0.lo))) rfl rfl (by rfl) (by intro x hx; have f0 := hx.load 0 0 rfl rfl; go_simp; (first | done | exact rfl)) ?_
    simp only [List.set_cons_succ, List.set_cons_zero]
    refine lin_val (i := 2) (v := .int .i64 (ti (x0.lo))) rfl rfl (by rfl) (by intro x hx; go_simp; (first | done | exact toI64 x0.lo | exact congrArg _ (toI64 x0.lo) | (rw [toI64 x0.lo]; done) | (rw [toI64 x0.lo]; rfl))) ?_
    simp only [List.set_cons_succ, List.set_cons_zero]
    refine lin_val (i := 3) (v := .pointer (some ⟨w.heap.size, 1, none⟩)) rfl rfl (by rfl) (by intro x hx; go_simp; (first | done | exact rfl)) ?_
    simp only [List.set_cons_succ, List.set_cons_zero]
    refine lin_val (i := 4) (v := .int .u64 (tn (x0.hi))) rfl rfl (by rfl) (by intro x hx; have f0 := hx.load 0 1 rfl rfl; go_simp; (first | done | exact rfl)) ?_
    simp only [List.set_cons_succ, List.set_cons_zero]
    refine lin_val (i := 5) (v := .int .i64 (ti (x0.hi))) rfl rfl (by rfl) (by intro x hx; go_simp; (first | done | exact toI64 x0.hi | exact congrArg _ (toI64 x0.hi) | (rw [toI64 x0.hi]; done) | (rw [toI64 x0.hi]; rfl))) ?_
    simp only [List.set_cons_succ, List.set_cons_zero]
    refine lin_val (i := 6) (v := .agg #[.int .i64 (ti (x0.lo)), .int .i64 (ti (x0.hi))]) rfl rfl (by rfl) (by intro x hx; go_simp; (first | done | exact rfl)) ?_
    simp only [List.set_cons_succ, List.set_cons_zero]
    refine lin_store (i := 7) (St w [⟨w.heap.size, [some (.int .u64 (tn (x0.lo))), some (.int .u64 (tn (x0.hi)))], 71⟩, ⟨w.heap.size + 1, [some (.int .i64 (ti (x0.lo))), some (.int .i64 (ti (x0.hi)))], 92⟩]) rfl rfl (by rfl) (fun x => ((x.setCell ⟨w.heap.size + 1, 0, none⟩ (.int .i64 (ti (x0.lo)))).setCell ⟨w.heap.size + 1, 1, none⟩ (.int .i64 (ti (x0.hi))))) (by intro x hx; obtain ⟨u0, z0⟩ := hx.has 1 0 rfl (by simp); have q0 := hx.soft 1 0 rfl; obtain ⟨u1, z1⟩ := hx.has 1 1 rfl (by simp); have q1 := hx.soft 1 1 rfl; go_simp; (first | done | rfl)) (fun x hx => ((hx.put 1 0 (.int .i64 (ti (x0.lo))) rfl).put 1 1 (.int .i64 (ti (x0.hi))) rfl)) ?_
    refine lin_val (i := 8) (v := .bool true) rfl rfl (by rfl) (by intro x hx; go_simp; (first | done | exact rfl)) ?_
    simp only [List.set_cons_succ, List.set_cons_zero]
    refine lin_done ?_
    intro W2 hx
    replace HS := hid hx
    clear hx
    go_wp2
    have r0 := HS.out.load 1 0 rfl rfl
    have r1 := HS.out.load 1 1 rfl rfl
    have HF : span_turned_int64_uint64 x0 = (x0, true) := by
      unfold span_turned_int64_uint64
      rw [cond_f h1.out]
    exact bodyPost_ret (v := .tuple #[.agg #[.int .i64 (ti (x0.lo)), .int .i64 (ti (x0.hi))], .bool true]) (by simp [results, Try.results112, go_sem, r0, r1]) rfl ⟨(by first | (rw [HF]; done) | (rw [HF]; rfl)), HS.out.below⟩
  · replace h1 := hid h1
    -- region 2
    go_upto_region 2 with fail
    refine lin_begin (St w [⟨w.heap.size, [some (.int .u64 (tn (x0.lo))), some (.int .u64 (tn (x0.hi)))], 71⟩, ⟨w.heap.size + 1, [some (.int .i64 0), some (.int .i64 0)], 92⟩]) rfl HS.out ?_
    refine lin_val (i := 0) (v := .agg #[.int .i64 0, .int .i64 0]) rfl rfl (by rfl) (by intro x hx; go_simp; (first | done | exact rfl)) ?_
    simp only [List.set_cons_succ, List.set_cons_zero]
    refine lin_store (i := 1) (St w [⟨w.heap.size, [some (.int .u64 (tn (x0.lo))), some (.int .u64 (tn (x0.hi)))], 71⟩, ⟨w.heap.size + 1, [some (.int .i64 0), some (.int .i64 0)], 92⟩]) rfl rfl (by rfl) (fun x => ((x.setCell ⟨w.heap.size + 1, 0, none⟩ (.int .i64 0)).setCell ⟨w.heap.size + 1, 1, none⟩ (.int .i64 0))) (by intro x hx; obtain ⟨u0, z0⟩ := hx.has 1 0 rfl (by simp); have q0 := hx.soft 1 0 rfl; obtain ⟨u1, z1⟩ := hx.has 1 1 rfl (by simp); have q1 := hx.soft 1 1 rfl; go_simp; (first | done | rfl)) (fun x hx => ((hx.put 1 0 (.int .i64 0) rfl).put 1 1 (.int .i64 0) rfl)) ?_
    refine lin_val (i := 2) (v := .bool false) rfl rfl (by rfl) (by intro x hx; go_simp; (first | done | exact rfl)) ?_
    simp only [List.set_cons_succ, List.set_cons_zero]
    refine lin_done ?_
    intro W2 hx
    replace HS := hid hx
    clear hx
    go_wp2
    have r0 := HS.out.load 1 0 rfl rfl
    have r1 := HS.out.load 1 1 rfl rfl
    have HF : span_turned_int64_uint64 x0 = (P.mk 0#64 0#64, false) := by
      unfold span_turned_int64_uint64
      rw [cond_t h1.out]
    exact bodyPost_ret (v := .tuple #[.agg #[.int .i64 0, .int .i64 0], .bool false]) (by simp [results, Try.results112, go_sem, r0, r1]) rfl ⟨(by first | (rw [HF]; done) | (rw [HF]; rfl)), HS.out.below⟩
def span_ToSigned (x0 : P) : P :=
  bif (span_turned_int64_uint64 x0).2 then ((span_turned_int64_uint64 x0).1) else (P.mk 9223372036854775808#64 9223372036854775807#64)
set_option maxRecDepth 100000 in
set_option maxHeartbeats 1000000 in
theorem span_ToSigned_any (x0 : P)  (w : World) :
    Calls Try.prog 68 #[.agg #[.int .u64 (tn (x0.lo)), .int .u64 (tn (x0.hi))]] w fun e w' => e = .returned (.agg #[.int .i64 (ti ((span_ToSigned x0).lo)), .int .i64 (ti ((span_ToSigned x0).hi))]) ∧ Below w.heap.size w w' := by
  go_enter Try.func68, Try.ntmps68
  have HS := hid (((st_nil w).alloc (k := w.heap.size) rfl [.int .u64 (tn (x0.lo)), .int .u64 (tn (x0.hi))] 24).alloc (k := w.heap.size + 1) (by simp) [.int .i64 0, .int .i64 0] 38)
  -- region 1
  go_upto_region 1 with fail
  refine lin_begin (St w [⟨w.heap.size, [some (.int .u64 (tn (x0.lo))), some (.int .u64 (tn (x0.hi)))], 24⟩, ⟨w.heap.size + 1, [some (.int .i64 0), some (.int .i64 0)], 38⟩]) rfl HS.out ?_
  refine lin_val (i := 0) (v := .agg #[.int .u64 (tn (x0.lo)), .int .u64 (tn (x0.hi))]) rfl rfl (by rfl) (by intro x hx; have f0 := hx.load 0 0 rfl rfl; have f1 := hx.load 0 1 rfl rfl; go_simp; (first | done | exact rfl)) ?_
  simp only [List.set_cons_succ, List.set_cons_zero]
  refine lin_call (i := 1) (f := 83) (args := #[.agg #[.int .u64 (tn (x0.lo)), .int .u64 (tn (x0.hi))]]) (v := .agg #[.int .u64 (tn (x0.lo)), .int .u64 (tn (x0.hi))]) (st_ups _ _) rfl rfl (by rfl) (fun x hx => by kernel_rfl) (by intro x hx; exact span_unsigned_any x0 _) ?_
  simp only [List.set_cons_succ, List.set_cons_zero]
  refine lin_call (i := 2) (f := 112) (args := #[.agg #[.int .u64 (tn (x0.lo)), .int .u64 (tn (x0.hi))]]) (v := .tuple #[.agg #[.int .i64 (ti (((span_turned_int64_uint64 x0).1).lo)), .int .i64 (ti (((span_turned_int64_uint64 x0).1).hi))], .bool ((span_turned_int64_uint64 x0).2)]) (st_ups _ _) rfl rfl (by rfl) (fun x hx => by kernel_rfl) (by intro x hx; exact span_turned_int64_uint64_any x0 _) ?_
  simp only [List.set_cons_succ, List.set_cons_zero]
  refine lin_val (i := 3) (v := .tuple #[.agg #[.int .i64 (ti (((span_turned_int64_uint64 x0).1).lo)), .int .i64 (ti (((span_turned_int64_uint64 x0).1).hi))], .bool ((span_turned_int64_uint64 x0).2)]) rfl rfl (by rfl) (by intro x hx; go_simp; (first | done | exact rfl)) ?_
  simp only [List.set_cons_succ, List.set_cons_zero]
  refine lin_val (i := 4) (v := .agg #[.int .i64 (ti (((span_turned_int64_uint64 x0).1).lo)), .int .i64 (ti (((span_turned_int64_uint64 x0).1).hi))]) rfl rfl (by rfl) (by intro x hx; go_simp; (first | done | exact rfl)) ?_
  simp only [List.set_cons_succ, List.set_cons_zero]
  refine lin_val (i := 5) (v := .bool ((span_turned_int64_uint64 x0).2)) rfl rfl (by rfl) (by intro x hx; go_simp; (first | done | exact rfl)) ?_
  simp only [List.set_cons_succ, List.set_cons_zero]
  refine lin_new (i := 6) rfl rfl (by rfl) [.int .i64 0, .int .i64 0] 92 (fun k => .pointer (some ⟨k, 0, none⟩)) [some (.int .i64 0), some (.int .i64 0)] (lessC_eq (lessC_eq (trivial))) (by intro x hx; go_simp; (first | done | exact rfl)) (fun k1 => ?_)
  simp only [List.set_cons_succ, List.set_cons_zero]
  refine lin_store (i := 7) (St w [⟨w.heap.size, [some (.int .u64 (tn (x0.lo))), some (.int .u64 (tn (x0.hi)))], 24⟩, ⟨w.heap.size + 1, [some (.int .i64 0), some (.int .i64 0)], 38⟩, ⟨k1, [some (.int .i64 (ti (((span_turned_int64_uint64 x0).1).lo))), some (.int .i64 (ti (((span_turned_int64_uint64 x0).1).hi)))], 92⟩]) rfl rfl (by rfl) (fun x => ((x.setCell ⟨k1, 0, none⟩ (.int .i64 (ti (((span_turned_int64_uint64 x0).1).lo)))).setCell ⟨k1, 1, none⟩ (.int .i64 (ti (((span_turned_int64_uint64 x0).1).hi))))) (by intro x hx; obtain ⟨u0, z0⟩ := hx.has 2 0 rfl (by simp); have q0 := hx.soft 2 0 rfl; obtain ⟨u1, z1⟩ := hx.has 2 1 rfl (by simp); have q1 := hx.soft 2 1 rfl; go_simp; (first | done | rfl)) (fun x hx => ((hx.put 2 0 (.int .i64 (ti (((span_turned_int64_uint64 x0).1).lo))) rfl).put 2 1 (.int .i64 (ti (((span_turned_int64_uint64 x0).1).hi))) rfl)) ?_
  refine lin_val (i := 8) (v := .bool ((span_turned_int64_uint64 x0).2)) rfl rfl (by rfl) (by intro x hx; go_simp; (first | done | exact rfl)) ?_
  simp only [List.set_cons_succ, List.set_cons_zero]
  refine lin_done ?_
  intro W1 hx
  replace HS := hid hx
  clear hx
  -- region 2
  go_upto_region 2 with fail
  refine lin_begin (St w [⟨w.heap.size, [some (.int .u64 (tn (x0.lo))), some (.int .u64 (tn (x0.hi)))], 24⟩, ⟨w.heap.size + 1, [some (.int .i64 0), some (.int .i64 0)], 38⟩, ⟨k1, [some (.int .i64 (ti (((span_turned_int64_uint64 x0).1).lo))), some (.int .i64 (ti (((span_turned_int64_uint64 x0).1).hi)))], 92⟩]) rfl HS.out ?_
  refine lin_val (i := 0) (v := .bool ((span_turned_int64_uint64 x0).2)) rfl rfl (by rfl) (by intro x hx; go_simp; (first | done | exact rfl)) ?_
  simp only [List.set_cons_succ, List.set_cons_zero]
  refine lin_done ?_
  intro W2 hx
  replace HS := hid hx
  clear hx
  cases h1 : ((span_turned_int64_uint64 x0).2)
  · replace h1 := hid h1
    -- region 4
    go_upto_region 4 with fail
    refine lin_begin (St w [⟨w.heap.size, [some (.int .u64 (tn (x0.lo))), some (.int .u64 (tn (x0.hi)))], 24⟩, ⟨w.heap.size + 1, [some (.int .i64 0), some (.int .i64 0)], 38⟩, ⟨k1, [some (.int .i64 (ti (((span_turned_int64_uint64 x0).1).lo))), some (.int .i64 (ti (((span_turned_int64_uint64 x0).1).hi)))], 92⟩]) rfl HS.out ?_
    refine lin_call (i := 0) (f := 52) (args := #[]) (v := .agg #[.int .i64 (ti (9223372036854775808#64)), .int .i64 (ti (9223372036854775807#64))]) (st_ups _ _) rfl rfl (by rfl) (fun x hx => by kernel_rfl) (by intro x hx; exact span_Sall_any _) ?_
    simp only [List.set_cons_succ, List.set_cons_zero]
    refine lin_store (i := 1) (St w [⟨w.heap.size, [some (.int .u64 (tn (x0.lo))), some (.int .u64 (tn (x0.hi)))], 24⟩, ⟨w.heap.size + 1, [some (.int .i64 (ti (9223372036854775808#64))), some (.int .i64 (ti (9223372036854775807#64)))], 38⟩, ⟨k1, [some (.int .i64 (ti (((span_turned_int64_uint64 x0).1).lo))), some (.int .i64 (ti (((span_turned_int64_uint64 x0).1).hi)))], 92⟩]) rfl rfl (by rfl) (fun x => ((x.setCell ⟨w.heap.size + 1, 0, none⟩ (.int .i64 (ti (9223372036854775808#64)))).setCell ⟨w.heap.size + 1, 1, none⟩ (.int .i64 (ti (9223372036854775807#64))))) (by intro x hx; obtain ⟨u0, z0⟩ := hx.has 1 0 rfl (by simp); have q0 := hx.soft 1 0 rfl; obtain ⟨u1, z1⟩ := hx.has 1 1 rfl (by simp); have q1 := hx.soft 1 1 rfl; go_simp; (first | done | rfl)) (fun x hx => ((hx.put 1 0 (.int .i64 (ti (9223372036854775808#64))) rfl).put 1 1 (.int .i64 (ti (9223372036854775807#64))) rfl)) ?_
    refine lin_done ?_
    intro W3 hx
    replace HS := hid hx
    clear hx
    go_wp2
    have r0 := HS.out.load 1 0 rfl rfl
    have r1 := HS.out.load 1 1 rfl rfl
    have HF : span_ToSigned x0 = P.mk 9223372036854775808#64 9223372036854775807#64 := by
      unfold span_ToSigned
      rw [cond_f h1.out]
    exact bodyPost_ret (v := .agg #[.int .i64 (ti (9223372036854775808#64)), .int .i64 (ti (9223372036854775807#64))]) (by simp [results, Try.results68, go_sem, r0, r1]) rfl ⟨(by first | (rw [HF]; done) | (rw [HF]; rfl)), HS.out.below⟩
  · replace h1 := hid h1
    -- region 3
    go_upto_region 3 with fail
    refine lin_begin (St w [⟨w.heap.size, [some (.int .u64 (tn (x0.lo))), some (.int .u64 (tn (x0.hi)))], 24⟩, ⟨w.heap.size + 1, [some (.int .i64 0), some (.int .i64 0)], 38⟩, ⟨k1, [some (.int .i64 (ti (((span_turned_int64_uint64 x0).1).lo))), some (.int .i64 (ti (((span_turned_int64_uint64 x0).1).hi)))], 92⟩]) rfl HS.out ?_
    refine lin_val (i := 0) (v := .agg #[.int .i64 (ti (((span_turned_int64_uint64 x0).1).lo)), .int .i64 (ti (((span_turned_int64_uint64 x0).1).hi))]) rfl rfl (by rfl) (by intro x hx; have f0 := hx.load 2 0 rfl rfl; have f1 := hx.load 2 1 rfl rfl; go_simp; (first | done | exact rfl)) ?_
    simp only [List.set_cons_succ, List.set_cons_zero]
    refine lin_call (i := 1) (f := 101) (args := #[.agg #[.int .i64 (ti (((span_turned_int64_uint64 x0).1).lo)), .int .i64 (ti (((span_turned_int64_uint64 x0).1).hi))]]) (v := .agg #[.int .i64 (ti (((span_turned_int64_uint64 x0).1).lo)), .int .i64 (ti (((span_turned_int64_uint64 x0).1).hi))]) (st_ups _ _) rfl rfl (by rfl) (fun x hx => by kernel_rfl) (by intro x hx; exact span_toSigned_any ((span_turned_int64_uint64 x0).1) _) ?_
    simp only [List.set_cons_succ, List.set_cons_zero]
    refine lin_store (i := 2) (St w [⟨w.heap.size, [some (.int .u64 (tn (x0.lo))), some (.int .u64 (tn (x0.hi)))], 24⟩, ⟨w.heap.size + 1, [some (.int .i64 (ti (((span_turned_int64_uint64 x0).1).lo))), some (.int .i64 (ti (((span_turned_int64_uint64 x0).1).hi)))], 38⟩, ⟨k1, [some (.int .i64 (ti (((span_turned_int64_uint64 x0).1).lo))), some (.int .i64 (ti (((span_turned_int64_uint64 x0).1).hi)))], 92⟩]) rfl rfl (by rfl) (fun x => ((x.setCell ⟨w.heap.size + 1, 0, none⟩ (.int .i64 (ti (((span_turned_int64_uint64 x0).1).lo)))).setCell ⟨w.heap.size + 1, 1, none⟩ (.int .i64 (ti (((span_turned_int64_uint64 x0).1).hi))))) (by intro x hx; obtain ⟨u0, z0⟩ := hx.has 1 0 rfl (by simp); have q0 := hx.soft 1 0 rfl; obtain ⟨u1, z1⟩ := hx.has 1 1 rfl (by simp); have q1 := hx.soft 1 1 rfl; go_simp; (first | done | rfl)) (fun x hx => ((hx.put 1 0 (.int .i64 (ti (((span_turned_int64_uint64 x0).1).lo))) rfl).put 1 1 (.int .i64 (ti (((span_turned_int64_uint64 x0).1).hi))) rfl)) ?_
    refine lin_done ?_
    intro W3 hx
    replace HS := hid hx
    clear hx
    go_wp2
    have r0 := HS.out.load 1 0 rfl rfl
    have r1 := HS.out.load 1 1 rfl rfl
    have HF : span_ToSigned x0 = (span_turned_int64_uint64 x0).1 := by
      unfold span_ToSigned
      rw [cond_t h1.out]
    exact bodyPost_ret (v := .agg #[.int .i64 (ti (((span_turned_int64_uint64 x0).1).lo)), .int .i64 (ti (((span_turned_int64_uint64 x0).1).hi))]) (by simp [results, Try.results68, go_sem, r0, r1]) rfl ⟨(by first | (rw [HF]; done) | (rw [HF]; rfl)), HS.out.below⟩
def span_turned_uint64_int64 (x0 : P) : P × Bool :=
  bif ltI (x0.lo ^^^ x0.hi) 0#64 then ((P.mk 0#64 0#64, false)) else ((x0, true))
set_option maxRecDepth 100000 in
set_option maxHeartbeats 1000000 in
theorem span_turned_uint64_int64_any (x0 : P)  (w : World) :
    Calls Try.prog 113 #[.agg #[.int .i64 (ti (x0.lo)), .int .i64 (ti (x0.hi))]] w fun e w' => e = .returned (.tuple #[.agg #[.int .u64 (tn (((span_turned_uint64_int64 x0).1).lo)), .int .u64 (tn (((span_turned_uint64_int64 x0).1).hi))], .bool ((span_turned_uint64_int64 x0).2)]) ∧ Below w.heap.size w w' := by
  go_enter Try.func113, Try.ntmps113
  have HS := hid (((st_nil w).alloc (k := w.heap.size) rfl [.int .i64 (ti (x0.lo)), .int .i64 (ti (x0.hi))] 92).alloc (k := w.heap.size + 1) (by simp) [.int .u64 0, .int .u64 0] 71)
  -- region 1
  go_upto_region 1 with fail
  refine lin_begin (St w [⟨w.heap.size, [some (.int .i64 (ti (x0.lo))), some (.int .i64 (ti (x0.hi)))], 92⟩, ⟨w.heap.size + 1, [some (.int .u64 0), some (.int .u64 0)], 71⟩]) rfl HS.out ?_
  refine lin_val (i := 0) (v := .pointer (some ⟨w.heap.size, 0, none⟩)) rfl rfl (by rfl) (by intro x hx; go_simp; (first | done | exact rfl)) ?_
  simp only [List.set_cons_succ, List.set_cons_zero]
  refine lin_val (i := 1) (v := .int .i64 (ti (x0.lo))) rfl rfl (by rfl) (by intro x hx; have f0 := hx.load 0 0 rfl rfl; go_simp; (first | done | exact rfl)) ?_
  simp only [List.set_cons_succ, List.set_cons_zero]
  refine lin_val (i := 2) (v := .pointer (some ⟨w.heap.size, 1, none⟩)) rfl rfl (by rfl) (by intro x hx; go_simp; (first | done | exact rfl)) ?_
  simp only [List.set_cons_succ, List.set_cons_zero]
  refine lin_val (i := 3) (v := .int .i64 (ti (x0.hi))) rfl rfl (by rfl) (by intro x hx; have f0 := hx.load 0 1 rfl rfl; go_simp; (first | done | exact rfl)) ?_
  simp only [List.set_cons_succ, List.set_cons_zero]
  refine lin_val (i := 4) (v := .int .i64 (ti (x0.lo ^^^ x0.hi))) rfl rfl (by rfl) (by intro x hx; go_simp; (first | done | exact xorIT x0.lo x0.hi | exact congrArg _ (xorIT x0.lo x0.hi) | (rw [xorIT x0.lo x0.hi]; done) | (rw [xorIT x0.lo x0.hi]; rfl))) ?_
  simp only [List.set_cons_succ, List.set_cons_zero]
  refine lin_val (i := 5) (v := .bool (ltI (x0.lo ^^^ x0.hi) 0#64)) rfl rfl (by rfl) (by intro x hx; go_simp; (first | done | exact ltIT (x0.lo ^^^ x0.hi) 0#64 | exact congrArg _ (ltIT (x0.lo ^^^ x0.hi) 0#64) | (rw [ltIT (x0.lo ^^^ x0.hi) 0#64]; done) | (rw [ltIT (x0.lo ^^^ x0.hi) 0#64]; rfl))) ?_
  simp only [List.set_cons_succ, List.set_cons_zero]
  refine lin_done ?_
  intro W1 hx
  replace HS := hid hx
  clear hx
  cases h1 : (ltI (x0.lo ^^^ x0.hi) 0#64)
  · replace h1 := hid h1
    -- region 3
    go_upto_region 3 with fail
    refine lin_begin (St w [⟨w.heap.size, [some (.int .i64 (ti (x0.lo))), some (.int .i64 (ti (x0.hi)))], 92⟩, ⟨w.heap.size + 1, [some (.int .u64 0), some (.int .u64 0)], 71⟩]) rfl HS.out ?_
    refine lin_val (i := 0) (v := .pointer (some ⟨w.heap.size, 0, none⟩)) rfl rfl (by rfl) (by intro x hx; go_simp; (first | done | exact rfl)) ?_
    simp only [List.set_cons_succ, List.set_cons_zero]
    refine lin_val (i := 1) (v := .int .i64 (ti (x0.lo))) rfl rfl (by rfl) (by intro x hx; have f0 := hx.load 0 0 rfl rfl; go_simp; (first | done | exact rfl)) ?_
    simp only [List.set_cons_succ, List.set_cons_zero]
    refine lin_val (i := 2) (v := .int .u64 (tn (x0.lo))) rfl rfl (by rfl) (by intro x hx; go_simp; (first | done | exact backI x0.lo | exact congrArg _ (backI x0.lo) | (rw [backI x0.lo]; done) | (rw [backI x0.lo]; rfl))) ?_
    simp only [List.set_cons_succ, List.set_cons_zero]
    refine lin_val (i := 3) (v := .pointer (some ⟨w.heap.size, 1, none⟩)) rfl rfl (by rfl) (by intro x hx; go_simp; (first | done | exact rfl)) ?_
    simp only [List.set_cons_succ, List.set_cons_zero]
    refine lin_val (i := 4) (v := .int .i64 (ti (x0.hi))) rfl rfl (by rfl) (by intro x hx; have f0 := hx.load 0 1 rfl rfl; go_simp; (first | done | exact rfl)) ?_
    simp only [List.set_cons_succ, List.set_cons_zero]
    refine lin_val (i := 5) (v := .int .u64 (tn (x0.hi))) rfl rfl (by rfl) (by intro x hx; go_simp; (first | done | exact backI x0.hi | exact congrArg _ (backI x0.hi) | (rw [backI x0.hi]; done) | (rw [backI x0.hi]; rfl))) ?_
    simp only [List.set_cons_succ, List.set_cons_zero]
    refine lin_val (i := 6) (v := .agg #[.int .u64 (tn (x0.lo)), .int .u64 (tn (x0.hi))]) rfl rfl (by rfl) (by intro x hx; go_simp; (first | done | exact rfl)) ?_
    simp only [List.set_cons_succ, List.set_cons_zero]
    refine lin_store (i := 7) (St w [⟨w.heap.size, [some (.int .i64 (ti (x0.lo))), some (.int .i64 (ti (x0.hi)))], 92⟩, ⟨w.heap.size + 1, [some (.int .u64 (tn (x0.lo))), some (.int .u64 (tn (x0.hi)))], 71⟩]) rfl rfl (by rfl) (fun x => ((x.setCell ⟨w.heap.size + 1, 0, none⟩ (.int .u64 (tn (x0.lo)))).setCell ⟨w.heap.size + 1, 1, none⟩ (.int .u64 (tn (x0.hi))))) (by intro x hx; obtain ⟨u0, z0⟩ := hx.has 1 0 rfl (by simp); have q0 := hx.soft 1 0 rfl; obtain ⟨u1, z1⟩ := hx.has 1 1 rfl (by simp); have q1 := hx.soft 1 1 rfl; go_simp; (first | done | rfl)) (fun x hx => ((hx.put 1 0 (.int .u64 (tn (x0.lo))) rfl).put 1 1 (.int .u64 (tn (x0.hi))) rfl)) ?_
    refine lin_val (i := 8) (v := .bool true) rfl rfl (by rfl) (by intro x hx; go_simp; (first | done | exact rfl)) ?_
    simp only [List.set_cons_succ, List.set_cons_zero]
    refine lin_done ?_
    intro W2 hx
    replace HS := hid hx
    clear hx
    go_wp2
    have r0 := HS.out.load 1 0 rfl rfl
    have r1 := HS.out.load 1 1 rfl rfl
    have HF : span_turned_uint64_int64 x0 = (x0, true) := by
      unfold span_turned_uint64_int64
      rw [cond_f h1.out]
    exact bodyPost_ret (v := .tuple #[.agg #[.int .u64 (tn (x0.lo)), .int .u64 (tn (x0.hi))], .bool true]) (by simp [results, Try.results113, go_sem, r0, r1]) rfl ⟨(by first | (rw [HF]; done) | (rw [HF]; rfl)), HS.out.below⟩
  · replace h1 := hid h1
    -- region 2
    go_upto_region 2 with fail
    refine lin_begin (St w [⟨w.heap.size, [some (.int .i64 (ti (x0.lo))), some (.int .i64 (ti (x0.hi)))], 92⟩, ⟨w.heap.size + 1, [some (.int .u64 0), some (.int .u64 0)], 71⟩]) rfl HS.out ?_
    refine lin_val (i := 0) (v := .agg #[.int .u64 0, .int .u64 0]) rfl rfl (by rfl) (by intro x hx; go_simp; (first | done | exact rfl)) ?_
    simp only [List.set_cons_succ, List.set_cons_zero]
    refine lin_store (i := 1) (St w [⟨w.heap.size, [some (.int .i64 (ti (x0.lo))), some (.int .i64 (ti (x0.hi)))], 92⟩, ⟨w.heap.size + 1, [some (.int .u64 0), some (.int .u64 0)], 71⟩]) rfl rfl (by rfl) (fun x => ((x.setCell ⟨w.heap.size + 1, 0, none⟩ (.int .u64 0)).setCell ⟨w.heap.size + 1, 1, none⟩ (.int .u64 0))) (by intro x hx; obtain ⟨u0, z0⟩ := hx.has 1 0 rfl (by simp); have q0 := hx.soft 1 0 rfl; obtain ⟨u1, z1⟩ := hx.has 1 1 rfl (by simp); have q1 := hx.soft 1 1 rfl; go_simp; (first | done | rfl)) (fun x hx => ((hx.put 1 0 (.int .u64 0) rfl).put 1 1 (.int .u64 0) rfl)) ?_
    refine lin_val (i := 2) (v := .bool false) rfl rfl (by rfl) (by intro x hx; go_simp; (first | done | exact rfl)) ?_
    simp only [List.set_cons_succ, List.set_cons_zero]
    refine lin_done ?_
    intro W2 hx
    replace HS := hid hx
    clear hx
    go_wp2
    have r0 := HS.out.load 1 0 rfl rfl
    have r1 := HS.out.load 1 1 rfl rfl
    have HF : span_turned_uint64_int64 x0 = (P.mk 0#64 0#64, false) := by
      unfold span_turned_uint64_int64
      rw [cond_t h1.out]
    exact bodyPost_ret (v := .tuple #[.agg #[.int .u64 0, .int .u64 0], .bool false]) (by simp [results, Try.results113, go_sem, r0, r1]) rfl ⟨(by first | (rw [HF]; done) | (rw [HF]; rfl)), HS.out.below⟩
def span_ToSpan (x0 : P) : P :=
  bif (span_turned_uint64_int64 x0).2 then ((span_turned_uint64_int64 x0).1) else (P.mk 0#64 18446744073709551615#64)
set_option maxRecDepth 100000 in
set_option maxHeartbeats 1000000 in
theorem span_ToSpan_any (x0 : P)  (w : World) :
    Calls Try.prog 72 #[.agg #[.int .i64 (ti (x0.lo)), .int .i64 (ti (x0.hi))]] w fun e w' => e = .returned (.agg #[.int .u64 (tn ((span_ToSpan x0).lo)), .int .u64 (tn ((span_ToSpan x0).hi))]) ∧ Below w.heap.size w w' := by
  go_enter Try.func72, Try.ntmps72
  have HS := hid (((st_nil w).alloc (k := w.heap.size) rfl [.int .i64 (ti (x0.lo)), .int .i64 (ti (x0.hi))] 38).alloc (k := w.heap.size + 1) (by simp) [.int .u64 0, .int .u64 0] 24)
  -- region 1
  go_upto_region 1 with fail
  refine lin_begin (St w [⟨w.heap.size, [some (.int .i64 (ti (x0.lo))), some (.int .i64 (ti (x0.hi)))], 38⟩, ⟨w.heap.size + 1, [some (.int .u64 0), some (.int .u64 0)], 24⟩]) rfl HS.out ?_
  refine lin_val (i := 0) (v := .agg #[.int .i64 (ti (x0.lo)), .int .i64 (ti (x0.hi))]) rfl rfl (by rfl) (by intro x hx; have f0 := hx.load 0 0 rfl rfl; have f1 := hx.load 0 1 rfl rfl; go_simp; (first | done | exact rfl)) ?_
  simp only [List.set_cons_succ, List.set_cons_zero]
  refine lin_call (i := 1) (f := 100) (args := #[.agg #[.int .i64 (ti (x0.lo)), .int .i64 (ti (x0.hi))]]) (v := .agg #[.int .i64 (ti (x0.lo)), .int .i64 (ti (x0.hi))]) (st_ups _ _) rfl rfl (by rfl) (fun x hx => by kernel_rfl) (by intro x hx; exact span_signed_any x0 _) ?_
  simp only [List.set_cons_succ, List.set_cons_zero]
  refine lin_call (i := 2) (f := 113) (args := #[.agg #[.int .i64 (ti (x0.lo)), .int .i64 (ti (x0.hi))]]) (v := .tuple #[.agg #[.int .u64 (tn (((span_turned_uint64_int64 x0).1).lo)), .int .u64 (tn (((span_turned_uint64_int64 x0).1).hi))], .bool ((span_turned_uint64_int64 x0).2)]) (st_ups _ _) rfl rfl (by rfl) (fun x hx => by kernel_rfl) (by intro x hx; exact span_turned_uint64_int64_any x0 _) ?_
  simp only [List.set_cons_succ, List.set_cons_zero]
  refine lin_val (i := 3) (v := .tuple #[.agg #[.int .u64 (tn (((span_turned_uint64_int64 x0).1).lo)), .int .u64 (tn (((span_turned_uint64_int64 x0).1).hi))], .bool ((span_turned_uint64_int64 x0).2)]) rfl rfl (by rfl) (by intro x hx; go_simp; (first | done | exact rfl)) ?_
  simp only [List.set_cons_succ, List.set_cons_zero]
  refine lin_val (i := 4) (v := .agg #[.int .u64 (tn (((span_turned_uint64_int64 x0).1).lo)), .int .u64 (tn (((span_turned_uint64_int64 x0).1).hi))]) rfl rfl (by rfl) (by intro x hx; go_simp; (first | done | exact rfl)) ?_
  simp only [List.set_cons_succ, List.set_cons_zero]
  refine lin_val (i := 5) (v := .bool ((span_turned_uint64_int64 x0).2)) rfl rfl (by rfl) (by intro x hx; go_simp; (first | done | exact rfl)) ?_
  simp only [List.set_cons_succ, List.set_cons_zero]
  refine lin_new (i := 6) rfl rfl (by rfl) [.int .u64 0, .int .u64 0] 71 (fun k => .pointer (some ⟨k, 0, none⟩)) [some (.int .u64 0), some (.int .u64 0)] (lessC_eq (lessC_eq (trivial))) (by intro x hx; go_simp; (first | done | exact rfl)) (fun k1 => ?_)
  simp only [List.set_cons_succ, List.set_cons_zero]
  refine lin_store (i := 7) (St w [⟨w.heap.size, [some (.int .i64 (ti (x0.lo))), some (.int .i64 (ti (x0.hi)))], 38⟩, ⟨w.heap.size + 1, [some (.int .u64 0), some (.int .u64 0)], 24⟩, ⟨k1, [some (.int .u64 (tn (((span_turned_uint64_int64 x0).1).lo))), some (.int .u64 (tn (((span_turned_uint64_int64 x0).1).hi)))], 71⟩]) rfl rfl (by rfl) (fun x => ((x.setCell ⟨k1, 0, none⟩ (.int .u64 (tn (((span_turned_uint64_int64 x0).1).lo)))).setCell ⟨k1, 1, none⟩ (.int .u64 (tn (((span_turned_uint64_int64 x0).1).hi))))) (by intro x hx; obtain ⟨u0, z0⟩ := hx.has 2 0 rfl (by simp); have q0 := hx.soft 2 0 rfl; obtain ⟨u1, z1⟩ := hx.has 2 1 rfl (by simp); have q1 := hx.soft 2 1 rfl; go_simp; (first | done | rfl)) (fun x hx => ((hx.put 2 0 (.int .u64 (tn (((span_turned_uint64_int64 x0).1).lo))) rfl).put 2 1 (.int .u64 (tn (((span_turned_uint64_int64 x0).1).hi))) rfl)) ?_
  refine lin_val (i := 8) (v := .bool ((span_turned_uint64_int64 x0).2)) rfl rfl (by rfl) (by intro x hx; go_simp; (first | done | exact rfl)) ?_
  simp only [List.set_cons_succ, List.set_cons_zero]
  refine lin_done ?_
  intro W1 hx
  replace HS := hid hx
  clear hx
  -- region 2
  go_upto_region 2 with fail
  refine lin_begin (St w [⟨w.heap.size, [some (.int .i64 (ti (x0.lo))), some (.int .i64 (ti (x0.hi)))], 38⟩, ⟨w.heap.size + 1, [some (.int .u64 0), some (.int .u64 0)], 24⟩, ⟨k1, [some (.int .u64 (tn (((span_turned_uint64_int64 x0).1).lo))), some (.int .u64 (tn (((span_turned_uint64_int64 x0).1).hi)))], 71⟩]) rfl HS.out ?_
  refine lin_val (i := 0) (v := .bool ((span_turned_uint64_int64 x0).2)) rfl rfl (by rfl) (by intro x hx; go_simp; (first | done | exact rfl)) ?_
  simp only [List.set_cons_succ, List.set_cons_zero]
  refine lin_done ?_
  intro W2 hx
  replace HS := hid hx
  clear hx
  cases h1 : ((span_turned_uint64_int64 x0).2)
  · replace h1 := hid h1
    -- region 4
    go_upto_region 4 with fail
    refine lin_begin (St w [⟨w.heap.size, [some (.int .i64 (ti (x0.lo))), some (.int .i64 (ti (x0.hi)))], 38⟩, ⟨w.heap.size + 1, [some (.int .u64 0), some (.int .u64 0)], 24⟩, ⟨k1, [some (.int .u64 (tn (((span_turned_uint64_int64 x0).1).lo))), some (.int .u64 (tn (((span_turned_uint64_int64 x0).1).hi)))], 71⟩]) rfl HS.out ?_
    refine lin_call (i := 0) (f := 17) (args := #[]) (v := .agg #[.int .u64 (tn (0#64)), .int .u64 (tn (18446744073709551615#64))]) (st_ups _ _) rfl rfl (by rfl) (fun x hx => by kernel_rfl) (by intro x hx; exact span_All_any _) ?_
    simp only [List.set_cons_succ, List.set_cons_zero]
    refine lin_store (i := 1) (St w [⟨w.heap.size, [some (.int .i64 (ti (x0.lo))), some (.int .i64 (ti (x0.hi)))], 38⟩, ⟨w.heap.size + 1, [some (.int .u64 (tn (0#64))), some (.int .u64 (tn (18446744073709551615#64)))], 24⟩, ⟨k1, [some (.int .u64 (tn (((span_turned_uint64_int64 x0).1).lo))), some (.int .u64 (tn (((span_turned_uint64_int64 x0).1).hi)))], 71⟩]) rfl rfl (by rfl) (fun x => ((x.setCell ⟨w.heap.size + 1, 0, none⟩ (.int .u64 (tn (0#64)))).setCell ⟨w.heap.size + 1, 1, none⟩ (.int .u64 (tn (18446744073709551615#64))))) (by intro x hx; obtain ⟨u0, z0⟩ := hx.has 1 0 rfl (by simp); have q0 := hx.soft 1 0 rfl; obtain ⟨u1, z1⟩ := hx.has 1 1 rfl (by simp); have q1 := hx.soft 1 1 rfl; go_simp; (first | done | rfl)) (fun x hx => ((hx.put 1 0 (.int .u64 (tn (0#64))) rfl).put 1 1 (.int .u64 (tn (18446744073709551615#64))) rfl)) ?_
    refine lin_done ?_
    intro W3 hx
    replace HS := hid hx
    clear hx
    go_wp2
    have r0 := HS.out.load 1 0 rfl rfl
    have r1 := HS.out.load 1 1 rfl rfl
    have HF : span_ToSpan x0 = P.mk 0#64 18446744073709551615#64 := by
      unfold span_ToSpan
      rw [cond_f h1.out]
    exact bodyPost_ret (v := .agg #[.int .u64 (tn (0#64)), .int .u64 (tn (18446744073709551615#64))]) (by simp [results, Try.results72, go_sem, r0, r1]) rfl ⟨(by first | (rw [HF]; done) | (rw [HF]; rfl)), HS.out.below⟩
  · replace h1 := hid h1
    -- region 3
    go_upto_region 3 with fail
    refine lin_begin (St w [⟨w.heap.size, [some (.int .i64 (ti (x0.lo))), some (.int .i64 (ti (x0.hi)))], 38⟩, ⟨w.heap.size + 1, [some (.int .u64 0), some (.int .u64 0)], 24⟩, ⟨k1, [some (.int .u64 (tn (((span_turned_uint64_int64 x0).1).lo))), some (.int .u64 (tn (((span_turned_uint64_int64 x0).1).hi)))], 71⟩]) rfl HS.out ?_
    refine lin_val (i := 0) (v := .agg #[.int .u64 (tn (((span_turned_uint64_int64 x0).1).lo)), .int .u64 (tn (((span_turned_uint64_int64 x0).1).hi))]) rfl rfl (by rfl) (by intro x hx; have f0 := hx.load 2 0 rfl rfl; have f1 := hx.load 2 1 rfl rfl; go_simp; (first | done | exact rfl)) ?_
    simp only [List.set_cons_succ, List.set_cons_zero]
    refine lin_call (i := 1) (f := 84) (args := #[.agg #[.int .u64 (tn (((span_turned_uint64_int64 x0).1).lo)), .int .u64 (tn (((span_turned_uint64_int64 x0).1).hi))]]) (v := .agg #[.int .u64 (tn (((span_turned_uint64_int64 x0).1).lo)), .int .u64 (tn (((span_turned_uint64_int64 x0).1).hi))]) (st_ups _ _) rfl rfl (by rfl) (fun x hx => by kernel_rfl) (by intro x hx; exact span_toUnsigned_any ((span_turned_uint64_int64 x0).1) _) ?_
    simp only [List.set_cons_succ, List.set_cons_zero]
    refine lin_store (i := 2) (St w [⟨w.heap.size, [some (.int .i64 (ti (x0.lo))), some (.int .i64 (ti (x0.hi)))], 38⟩, ⟨w.heap.size + 1, [some (.int .u64 (tn (((span_turned_uint64_int64 x0).1).lo))), some (.int .u64 (tn (((span_turned_uint64_int64 x0).1).hi)))], 24⟩, ⟨k1, [some (.int .u64 (tn (((span_turned_uint64_int64 x0).1).lo))), some (.int .u64 (tn (((span_turned_uint64_int64 x0).1).hi)))], 71⟩]) rfl rfl (by rfl) (fun x => ((x.setCell ⟨w.heap.size + 1, 0, none⟩ (.int .u64 (tn (((span_turned_uint64_int64 x0).1).lo)))).setCell ⟨w.heap.size + 1, 1, none⟩ (.int .u64 (tn (((span_turned_uint64_int64 x0).1).hi))))) (by intro x hx; obtain ⟨u0, z0⟩ := hx.has 1 0 rfl (by simp); have q0 := hx.soft 1 0 rfl; obtain ⟨u1, z1⟩ := hx.has 1 1 rfl (by simp); have q1 := hx.soft 1 1 rfl; go_simp; (first | done | rfl)) (fun x hx => ((hx.put 1 0 (.int .u64 (tn (((span_turned_uint64_int64 x0).1).lo))) rfl).put 1 1 (.int .u64 (tn (((span_turned_uint64_int64 x0).1).hi))) rfl)) ?_
    refine lin_done ?_
    intro W3 hx
    replace HS := hid hx
    clear hx
    go_wp2
    have r0 := HS.out.load 1 0 rfl rfl
    have r1 := HS.out.load 1 1 rfl rfl
    have HF : span_ToSpan x0 = (span_turned_uint64_int64 x0).1 := by
      unfold span_ToSpan
      rw [cond_t h1.out]
    exact bodyPost_ret (v := .agg #[.int .u64 (tn (((span_turned_uint64_int64 x0).1).lo)), .int .u64 (tn (((span_turned_uint64_int64 x0).1).hi))]) (by simp [results, Try.results72, go_sem, r0, r1]) rfl ⟨(by first | (rw [HF]; done) | (rw [HF]; rfl)), HS.out.below⟩
set_option maxRecDepth 100000 in
set_option maxHeartbeats 1000000 in
theorem span_Bounds_any (x0 : P)  (w : World) :
    Calls Try.prog 75 #[.agg #[.int .u64 (tn (x0.lo)), .int .u64 (tn (x0.hi))]] w fun e w' => e = .returned (.agg #[.int .u64 (tn (x0.lo)), .int .u64 (tn (x0.lo ||| x0.hi))]) ∧ Below w.heap.size w w' := by
  go_enter Try.func75, Try.ntmps75
  have HS := hid (((st_nil w).alloc (k := w.heap.size) rfl [.int .u64 (tn (x0.lo)), .int .u64 (tn (x0.hi))] 51).alloc (k := w.heap.size + 1) (by simp) [.int .u64 0, .int .u64 0] 24)
  -- region 1
  go_upto_region 1 with fail
  refine lin_begin (St w [⟨w.heap.size, [some (.int .u64 (tn (x0.lo))), some (.int .u64 (tn (x0.hi)))], 51⟩, ⟨w.heap.size + 1, [some (.int .u64 0), some (.int .u64 0)], 24⟩]) rfl HS.out ?_
  refine lin_val (i := 0) (v := .pointer (some ⟨w.heap.size, 0, none⟩)) rfl rfl (by rfl) (by intro x hx; go_simp; (first | done | exact rfl)) ?_
  simp only [List.set_cons_succ, List.set_cons_zero]
  refine lin_val (i := 1) (v := .int .u64 (tn (x0.lo))) rfl rfl (by rfl) (by intro x hx; have f0 := hx.load 0 0 rfl rfl; go_simp; (first | done | exact rfl)) ?_
  simp only [List.set_cons_succ, List.set_cons_zero]
  refine lin_val (i := 2) (v := .pointer (some ⟨w.heap.size, 0, none⟩)) rfl rfl (by rfl) (by intro x hx; go_simp; (first | done | exact rfl)) ?_
  simp only [List.set_cons_succ, List.set_cons_zero]
  refine lin_val (i := 3) (v := .int .u64 (tn (x0.lo))) rfl rfl (by rfl) (by intro x hx; have f0 := hx.load 0 0 rfl rfl; go_simp; (first | done | exact rfl)) ?_
  simp only [List.set_cons_succ, List.set_cons_zero]
  refine lin_val (i := 4) (v := .pointer (some ⟨w.heap.size, 1, none⟩)) rfl rfl (by rfl) (by intro x hx; go_simp; (first | done | exact rfl)) ?_
  simp only [List.set_cons_succ, List.set_cons_zero]
  refine lin_val (i := 5) (v := .int .u64 (tn (x0.hi))) rfl rfl (by rfl) (by intro x hx; have f0 := hx.load 0 1 rfl rfl; go_simp; (first | done | exact rfl)) ?_
  simp only [List.set_cons_succ, List.set_cons_zero]
  refine lin_val (i := 6) (v := .int .u64 (tn (x0.lo ||| x0.hi))) rfl rfl (by rfl) (by intro x hx; go_simp; (first | done | exact orUT x0.lo x0.hi | exact congrArg _ (orUT x0.lo x0.hi) | (rw [orUT x0.lo x0.hi]; done) | (rw [orUT x0.lo x0.hi]; rfl))) ?_
  simp only [List.set_cons_succ, List.set_cons_zero]
  refine lin_val (i := 7) (v := .agg #[.int .u64 (tn (x0.lo)), .int .u64 (tn (x0.lo ||| x0.hi))]) rfl rfl (by rfl) (by intro x hx; go_simp; (first | done | exact rfl)) ?_
  simp only [List.set_cons_succ, List.set_cons_zero]
  refine lin_store (i := 8) (St w [⟨w.heap.size, [some (.int .u64 (tn (x0.lo))), some (.int .u64 (tn (x0.hi)))], 51⟩, ⟨w.heap.size + 1, [some (.int .u64 (tn (x0.lo))), some (.int .u64 (tn (x0.lo ||| x0.hi)))], 24⟩]) rfl rfl (by rfl) (fun x => ((x.setCell ⟨w.heap.size + 1, 0, none⟩ (.int .u64 (tn (x0.lo)))).setCell ⟨w.heap.size + 1, 1, none⟩ (.int .u64 (tn (x0.lo ||| x0.hi))))) (by intro x hx; obtain ⟨u0, z0⟩ := hx.has 1 0 rfl (by simp); have q0 := hx.soft 1 0 rfl; obtain ⟨u1, z1⟩ := hx.has 1 1 rfl (by simp); have q1 := hx.soft 1 1 rfl; go_simp; (first | done | rfl)) (fun x hx => ((hx.put 1 0 (.int .u64 (tn (x0.lo))) rfl).put 1 1 (.int .u64 (tn (x0.lo ||| x0.hi))) rfl)) ?_
  refine lin_done ?_
  intro W1 hx
  replace HS := hid hx
  clear hx
  go_wp2
  have r0 := HS.out.load 1 0 rfl rfl
  have r1 := HS.out.load 1 1 rfl rfl
  exact bodyPost_ret (v := .agg #[.int .u64 (tn (x0.lo)), .int .u64 (tn (x0.lo ||| x0.hi))]) (by simp [results, Try.results75, go_sem, r0, r1]) rfl ⟨rfl, HS.out.below⟩
def span_Sbounds (x0 : P) : P :=
  P.mk (x0.lo ||| (x0.hi &&& 9223372036854775808#64)) (x0.lo ||| (x0.hi &&& ~~~9223372036854775808#64))
set_option maxRecDepth 100000 in
set_option maxHeartbeats 1000000 in
theorem span_Sbounds_any (x0 : P)  (w : World) :
    Calls Try.prog 77 #[.agg #[.int .u64 (tn (x0.lo)), .int .u64 (tn (x0.hi))]] w fun e w' => e = .returned (.agg #[.int .i64 (ti ((span_Sbounds x0).lo)), .int .i64 (ti ((span_Sbounds x0).hi))]) ∧ Below w.heap.size w w' := by
  go_enter Try.func77, Try.ntmps77
  have HS := hid (((st_nil w).alloc (k := w.heap.size) rfl [.int .u64 (tn (x0.lo)), .int .u64 (tn (x0.hi))] 51).alloc (k := w.heap.size + 1) (by simp) [.int .i64 0, .int .i64 0] 38)
  -- region 1
  go_upto_region 1 with fail
  refine lin_begin (St w [⟨w.heap.size, [some (.int .u64 (tn (x0.lo))), some (.int .u64 (tn (x0.hi)))], 51⟩, ⟨w.heap.size + 1, [some (.int .i64 0), some (.int .i64 0)], 38⟩]) rfl HS.out ?_
  refine lin_val (i := 0) (v := .pointer (some ⟨w.heap.size, 0, none⟩)) rfl rfl (by rfl) (by intro x hx; go_simp; (first | done | exact rfl)) ?_
  simp only [List.set_cons_succ, List.set_cons_zero]
  refine lin_val (i := 1) (v := .int .u64 (tn (x0.lo))) rfl rfl (by rfl) (by intro x hx; have f0 := hx.load 0 0 rfl rfl; go_simp; (first | done | exact rfl)) ?_
  simp only [List.set_cons_succ, List.set_cons_zero]
  refine lin_val (i := 2) (v := .pointer (some ⟨w.heap.size, 1, none⟩)) rfl rfl (by rfl) (by intro x hx; go_simp; (first | done | exact rfl)) ?_
  simp only [List.set_cons_succ, List.set_cons_zero]
  refine lin_val (i := 3) (v := .int .u64 (tn (x0.hi))) rfl rfl (by rfl) (by intro x hx; have f0 := hx.load 0 1 rfl rfl; go_simp; (first | done | exact rfl)) ?_
  simp only [List.set_cons_succ, List.set_cons_zero]
  refine lin_val (i := 4) (v := .int .u64 (tn (x0.hi &&& 9223372036854775808#64))) rfl rfl (by rfl) (by intro x hx; go_simp; (first | done | exact andUT x0.hi 9223372036854775808#64 | exact congrArg _ (andUT x0.hi 9223372036854775808#64) | (rw [andUT x0.hi 9223372036854775808#64]; done) | (rw [andUT x0.hi 9223372036854775808#64]; rfl))) ?_
  simp only [List.set_cons_succ, List.set_cons_zero]
  refine lin_val (i := 5) (v := .int .u64 (tn (x0.lo ||| (x0.hi &&& 9223372036854775808#64)))) rfl rfl (by rfl) (by intro x hx; go_simp; (first | done | exact orUT x0.lo (x0.hi &&& 9223372036854775808#64) | exact congrArg _ (orUT x0.lo (x0.hi &&& 9223372036854775808#64)) | (rw [orUT x0.lo (x0.hi &&& 9223372036854775808#64)]; done) | (rw [orUT x0.lo (x0.hi &&& 9223372036854775808#64)]; rfl))) ?_
  simp only [List.set_cons_succ, List.set_cons_zero]
  refine lin_val (i := 6) (v := .int .i64 (ti (x0.lo ||| (x0.hi &&& 9223372036854775808#64)))) rfl rfl (by rfl) (by intro x hx; go_simp; (first | done | exact toI64 (x0.lo ||| (x0.hi &&& 9223372036854775808#64)) | exact congrArg _ (toI64 (x0.lo ||| (x0.hi &&& 9223372036854775808#64))) | (rw [toI64 (x0.lo ||| (x0.hi &&& 9223372036854775808#64))]; done) | (rw [toI64 (x0.lo ||| (x0.hi &&& 9223372036854775808#64))]; rfl))) ?_
  simp only [List.set_cons_succ, List.set_cons_zero]
  refine lin_val (i := 7) (v := .pointer (some ⟨w.heap.size, 0, none⟩)) rfl rfl (by rfl) (by intro x hx; go_simp; (first | done | exact rfl)) ?_
  simp only [List.set_cons_succ, List.set_cons_zero]
  refine lin_val (i := 8) (v := .int .u64 (tn (x0.lo))) rfl rfl (by rfl) (by intro x hx; have f0 := hx.load 0 0 rfl rfl; go_simp; (first | done | exact rfl)) ?_
  simp only [List.set_cons_succ, List.set_cons_zero]
  refine lin_val (i := 9) (v := .pointer (some ⟨w.heap.size, 1, none⟩)) rfl rfl (by rfl) (by intro x hx; go_simp; (first | done | exact rfl)) ?_
  simp only [List.set_cons_succ, List.set_cons_zero]
  refine lin_val (i := 10) (v := .int .u64 (tn (x0.hi))) rfl rfl (by rfl) (by intro x hx; have f0 := hx.load 0 1 rfl rfl; go_simp; (first | done | exact rfl)) ?_
  simp only [List.set_cons_succ, List.set_cons_zero]
  refine lin_val (i := 11) (v := .int .u64 (tn (x0.hi &&& ~~~9223372036854775808#64))) rfl rfl (by rfl) (by intro x hx; go_simp; (first | done | exact andNotUT x0.hi 9223372036854775808#64 | exact congrArg _ (andNotUT x0.hi 9223372036854775808#64) | (rw [andNotUT x0.hi 9223372036854775808#64]; done) | (rw [andNotUT x0.hi 9223372036854775808#64]; rfl))) ?_
  simp only [List.set_cons_succ, List.set_cons_zero]
  refine lin_val (i := 12) (v := .int .u64 (tn (x0.lo ||| (x0.hi &&& ~~~9223372036854775808#64)))) rfl rfl (by rfl) (by intro x hx; go_simp; (first | done | exact orUT x0.lo (x0.hi &&& ~~~9223372036854775808#64) | exact congrArg _ (orUT x0.lo (x0.hi &&& ~~~9223372036854775808#64)) | (rw [orUT x0.lo (x0.hi &&& ~~~9223372036854775808#64)]; done) | (rw [orUT x0.lo (x0.hi &&& ~~~9223372036854775808#64)]; rfl))) ?_
  simp only [List.set_cons_succ, List.set_cons_zero]
  refine lin_val (i := 13) (v := .int .i64 (ti (x0.lo ||| (x0.hi &&& ~~~9223372036854775808#64)))) rfl rfl (by rfl) (by intro x hx; go_simp; (first | done | exact toI64 (x0.lo ||| (x0.hi &&& ~~~9223372036854775808#64)) | exact congrArg _ (toI64 (x0.lo ||| (x0.hi &&& ~~~9223372036854775808#64))) | (rw [toI64 (x0.lo ||| (x0.hi &&& ~~~9223372036854775808#64))]; done) | (rw [toI64 (x0.lo ||| (x0.hi &&& ~~~9223372036854775808#64))]; rfl))) ?_
  simp only [List.set_cons_succ, List.set_cons_zero]
  refine lin_val (i := 14) (v := .agg #[.int .i64 (ti (x0.lo ||| (x0.hi &&& 9223372036854775808#64))), .int .i64 (ti (x0.lo ||| (x0.hi &&& ~~~9223372036854775808#64)))]) rfl rfl (by rfl) (by intro x hx; go_simp; (first | done | exact rfl)) ?_
  simp only [List.set_cons_succ, List.set_cons_zero]
  refine lin_store (i := 15) (St w [⟨w.heap.size, [some (.int .u64 (tn (x0.lo))), some (.int .u64 (tn (x0.hi)))], 51⟩, ⟨w.heap.size + 1, [some (.int .i64 (ti (x0.lo ||| (x0.hi &&& 9223372036854775808#64)))), some (.int .i64 (ti (x0.lo ||| (x0.hi &&& ~~~9223372036854775808#64))))], 38⟩]) rfl rfl (by rfl) (fun x => ((x.setCell ⟨w.heap.size + 1, 0, none⟩ (.int .i64 (ti (x0.lo ||| (x0.hi &&& 9223372036854775808#64))))).setCell ⟨w.heap.size + 1, 1, none⟩ (.int .i64 (ti (x0.lo ||| (x0.hi &&& ~~~9223372036854775808#64)))))) (by intro x hx; obtain ⟨u0, z0⟩ := hx.has 1 0 rfl (by simp); have q0 := hx.soft 1 0 rfl; obtain ⟨u1, z1⟩ := hx.has 1 1 rfl (by simp); have q1 := hx.soft 1 1 rfl; go_simp; (first | done | rfl)) (fun x hx => ((hx.put 1 0 (.int .i64 (ti (x0.lo ||| (x0.hi &&& 9223372036854775808#64)))) rfl).put 1 1 (.int .i64 (ti (x0.lo ||| (x0.hi &&& ~~~9223372036854775808#64)))) rfl)) ?_
  refine lin_done ?_
  intro W1 hx
  replace HS := hid hx
  clear hx
  go_wp2
  have r0 := HS.out.load 1 0 rfl rfl
  have r1 := HS.out.load 1 1 rfl rfl
  have HF : span_Sbounds x0 = P.mk (x0.lo ||| (x0.hi &&& 9223372036854775808#64)) (x0.lo ||| (x0.hi &&& ~~~9223372036854775808#64)) := by
    unfold span_Sbounds
    rfl
  exact bodyPost_ret (v := .agg #[.int .i64 (ti (x0.lo ||| (x0.hi &&& 9223372036854775808#64))), .int .i64 (ti (x0.lo ||| (x0.hi &&& ~~~9223372036854775808#64)))]) (by simp [results, Try.results77, go_sem, r0, r1]) rfl ⟨(by first | (rw [HF]; done) | (rw [HF]; rfl)), HS.out.below⟩
end Go.Proofs.Ytoojdndfjfmemaa.Sp
