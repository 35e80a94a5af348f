/-
  The contracts of the document's calls: unsigned ones.
-/
import Derived.Deep.DeepCutAuto
import Derived.Test.YtoojdndfjfmemaaOps
namespace Go.Proofs.Ytoojdndfjfmemaa.Sp
open Go.RowKit Go.Proofs.Ytoojdndfjfmemaa.Num Go.Proofs.Ytoojdndfjfmemaa.Up
set_option maxRecDepth 100000 in
set_option maxHeartbeats 1000000 in
theorem ref_May_any (x0 : P)  (w : World) :
    Calls Try.prog 11 #[.agg #[.int .u64 (tn (x0.lo)), .int .u64 (tn (x0.hi))]] w fun e w' => e = .returned (.bool ((leU x0.lo x0.hi))) ∧ Below w.heap.size w w' := by
  go_enter Try.func11, Try.ntmps11
  have HS := hid ((st_nil w).alloc (k := w.heap.size) rfl [.int .u64 (tn (x0.lo)), .int .u64 (tn (x0.hi))] 24)
  -- region 1
  go_upto_region 1 with fail
  refine lin_begin (St w [⟨w.heap.size, [some (.int .u64 (tn (x0.lo))), some (.int .u64 (tn (x0.hi)))], 24⟩]) rfl HS.out ?_
  refine lin_val (i := 0) (v := .pointer (some ⟨w.heap.size, 0, none⟩)) rfl rfl (by rfl) (by intro x hx; go_simp; (first | done | exact rfl)) ?_
  simp only [List.set_cons_succ, List.set_cons_zero]
  refine lin_val (i := 1) (v := .int .u64 (tn (x0.lo))) rfl rfl (by rfl) (by intro x hx; have f0 := hx.load 0 0 rfl rfl; go_simp; (first | done | exact rfl)) ?_
  simp only [List.set_cons_succ, List.set_cons_zero]
  refine lin_val (i := 2) (v := .pointer (some ⟨w.heap.size, 1, none⟩)) rfl rfl (by rfl) (by intro x hx; go_simp; (first | done | exact rfl)) ?_
  simp only [List.set_cons_succ, List.set_cons_zero]
  refine lin_val (i := 3) (v := .int .u64 (tn (x0.hi))) rfl rfl (by rfl) (by intro x hx; have f0 := hx.load 0 1 rfl rfl; go_simp; (first | done | exact rfl)) ?_
  simp only [List.set_cons_succ, List.set_cons_zero]
  refine lin_val (i := 4) (v := .bool (leU x0.lo x0.hi)) rfl rfl (by rfl) (by intro x hx; go_simp; (first | done | exact leUT x0.lo x0.hi | exact congrArg _ (leUT x0.lo x0.hi) | (rw [leUT x0.lo x0.hi]; done) | (rw [leUT x0.lo x0.hi]; rfl))) ?_
  simp only [List.set_cons_succ, List.set_cons_zero]
  refine lin_val (i := 5) (v := .bool (leU x0.lo x0.hi)) rfl rfl (by rfl) (by intro x hx; go_simp; (first | done | exact rfl)) ?_
  simp only [List.set_cons_succ, List.set_cons_zero]
  refine lin_done ?_
  intro W1 hx
  replace HS := hid hx
  clear hx
  go_wp2
  exact bodyPost_ret (v := .bool (leU x0.lo x0.hi)) (by simp [results, Try.results11, go_sem]) rfl ⟨rfl, HS.out.below⟩
set_option maxRecDepth 100000 in
set_option maxHeartbeats 1000000 in
theorem ref_Smay_any (x0 : P)  (w : World) :
    Calls Try.prog 47 #[.agg #[.int .i64 (ti (x0.lo)), .int .i64 (ti (x0.hi))]] w fun e w' => e = .returned (.bool ((leI x0.lo x0.hi))) ∧ Below w.heap.size w w' := by
  go_enter Try.func47, Try.ntmps47
  have HS := hid ((st_nil w).alloc (k := w.heap.size) rfl [.int .i64 (ti (x0.lo)), .int .i64 (ti (x0.hi))] 38)
  -- region 1
  go_upto_region 1 with fail
  refine lin_begin (St w [⟨w.heap.size, [some (.int .i64 (ti (x0.lo))), some (.int .i64 (ti (x0.hi)))], 38⟩]) rfl HS.out ?_
  refine lin_val (i := 0) (v := .pointer (some ⟨w.heap.size, 0, none⟩)) rfl rfl (by rfl) (by intro x hx; go_simp; (first | done | exact rfl)) ?_
  simp only [List.set_cons_succ, List.set_cons_zero]
  refine lin_val (i := 1) (v := .int .i64 (ti (x0.lo))) rfl rfl (by rfl) (by intro x hx; have f0 := hx.load 0 0 rfl rfl; go_simp; (first | done | exact rfl)) ?_
  simp only [List.set_cons_succ, List.set_cons_zero]
  refine lin_val (i := 2) (v := .pointer (some ⟨w.heap.size, 1, none⟩)) rfl rfl (by rfl) (by intro x hx; go_simp; (first | done | exact rfl)) ?_
  simp only [List.set_cons_succ, List.set_cons_zero]
  refine lin_val (i := 3) (v := .int .i64 (ti (x0.hi))) rfl rfl (by rfl) (by intro x hx; have f0 := hx.load 0 1 rfl rfl; go_simp; (first | done | exact rfl)) ?_
  simp only [List.set_cons_succ, List.set_cons_zero]
  refine lin_val (i := 4) (v := .bool (leI x0.lo x0.hi)) rfl rfl (by rfl) (by intro x hx; go_simp; (first | done | exact leIT x0.lo x0.hi | exact congrArg _ (leIT x0.lo x0.hi) | (rw [leIT x0.lo x0.hi]; done) | (rw [leIT x0.lo x0.hi]; rfl))) ?_
  simp only [List.set_cons_succ, List.set_cons_zero]
  refine lin_val (i := 5) (v := .bool (leI x0.lo x0.hi)) rfl rfl (by rfl) (by intro x hx; go_simp; (first | done | exact rfl)) ?_
  simp only [List.set_cons_succ, List.set_cons_zero]
  refine lin_done ?_
  intro W1 hx
  replace HS := hid hx
  clear hx
  go_wp2
  exact bodyPost_ret (v := .bool (leI x0.lo x0.hi)) (by simp [results, Try.results47, go_sem]) rfl ⟨rfl, HS.out.below⟩
set_option maxRecDepth 100000 in
set_option maxHeartbeats 1000000 in
theorem ref_Tmay_any (x0 : P)  (w : World) :
    Calls Try.prog 74 #[.agg #[.int .u64 (tn (x0.lo)), .int .u64 (tn (x0.hi))]] w fun e w' => e = .returned (.bool (((x0.lo &&& x0.hi) == 0#64))) ∧ Below w.heap.size w w' := by
  go_enter Try.func74, Try.ntmps74
  have HS := hid ((st_nil w).alloc (k := w.heap.size) rfl [.int .u64 (tn (x0.lo)), .int .u64 (tn (x0.hi))] 51)
  -- region 1
  go_upto_region 1 with fail
  refine lin_begin (St w [⟨w.heap.size, [some (.int .u64 (tn (x0.lo))), some (.int .u64 (tn (x0.hi)))], 51⟩]) rfl HS.out ?_
  refine lin_val (i := 0) (v := .pointer (some ⟨w.heap.size, 0, none⟩)) rfl rfl (by rfl) (by intro x hx; go_simp; (first | done | exact rfl)) ?_
  simp only [List.set_cons_succ, List.set_cons_zero]
  refine lin_val (i := 1) (v := .int .u64 (tn (x0.lo))) rfl rfl (by rfl) (by intro x hx; have f0 := hx.load 0 0 rfl rfl; go_simp; (first | done | exact rfl)) ?_
  simp only [List.set_cons_succ, List.set_cons_zero]
  refine lin_val (i := 2) (v := .pointer (some ⟨w.heap.size, 1, none⟩)) rfl rfl (by rfl) (by intro x hx; go_simp; (first | done | exact rfl)) ?_
  simp only [List.set_cons_succ, List.set_cons_zero]
  refine lin_val (i := 3) (v := .int .u64 (tn (x0.hi))) rfl rfl (by rfl) (by intro x hx; have f0 := hx.load 0 1 rfl rfl; go_simp; (first | done | exact rfl)) ?_
  simp only [List.set_cons_succ, List.set_cons_zero]
  refine lin_val (i := 4) (v := .int .u64 (tn (x0.lo &&& x0.hi))) rfl rfl (by rfl) (by intro x hx; go_simp; (first | done | exact andUT x0.lo x0.hi | exact congrArg _ (andUT x0.lo x0.hi) | (rw [andUT x0.lo x0.hi]; done) | (rw [andUT x0.lo x0.hi]; rfl))) ?_
  simp only [List.set_cons_succ, List.set_cons_zero]
  refine lin_val (i := 5) (v := .bool (((x0.lo &&& x0.hi) == 0#64))) rfl rfl (by rfl) (by intro x hx; go_simp; (first | done | exact eqUT (x0.lo &&& x0.hi) 0#64 | exact congrArg _ (eqUT (x0.lo &&& x0.hi) 0#64) | (rw [eqUT (x0.lo &&& x0.hi) 0#64]; done) | (rw [eqUT (x0.lo &&& x0.hi) 0#64]; rfl))) ?_
  simp only [List.set_cons_succ, List.set_cons_zero]
  refine lin_val (i := 6) (v := .bool (((x0.lo &&& x0.hi) == 0#64))) rfl rfl (by rfl) (by intro x hx; go_simp; (first | done | exact rfl)) ?_
  simp only [List.set_cons_succ, List.set_cons_zero]
  refine lin_done ?_
  intro W1 hx
  replace HS := hid hx
  clear hx
  go_wp2
  exact bodyPost_ret (v := .bool (((x0.lo &&& x0.hi) == 0#64))) (by simp [results, Try.results74, go_sem]) rfl ⟨rfl, HS.out.below⟩
set_option maxRecDepth 100000 in
set_option maxHeartbeats 1000000 in
theorem ref_All_any   (w : World) :
    Calls Try.prog 18 #[] w fun e w' => e = .returned (.agg #[.int .u64 (tn (0#64)), .int .u64 (tn (18446744073709551615#64))]) ∧ Below w.heap.size w w' := by
  go_enter Try.func18, Try.ntmps18
  have HS := hid ((st_nil w).alloc (k := w.heap.size) rfl [.int .u64 0, .int .u64 0] 24)
  -- region 1
  go_upto_region 1 with fail
  refine lin_begin (St w [⟨w.heap.size, [some (.int .u64 0), some (.int .u64 0)], 24⟩]) rfl HS.out ?_
  refine lin_val (i := 0) (v := .agg #[.int .u64 0, .int .u64 18446744073709551615]) rfl rfl (by rfl) (by intro x hx; go_simp; (first | done | exact rfl)) ?_
  simp only [List.set_cons_succ, List.set_cons_zero]
  refine lin_store (i := 1) (St w [⟨w.heap.size, [some (.int .u64 0), some (.int .u64 18446744073709551615)], 24⟩]) rfl rfl (by rfl) (fun x => ((x.setCell ⟨w.heap.size, 0, none⟩ (.int .u64 0)).setCell ⟨w.heap.size, 1, none⟩ (.int .u64 18446744073709551615))) (by intro x hx; obtain ⟨u0, z0⟩ := hx.has 0 0 rfl (by simp); have q0 := hx.soft 0 0 rfl; obtain ⟨u1, z1⟩ := hx.has 0 1 rfl (by simp); have q1 := hx.soft 0 1 rfl; go_simp; (first | done | rfl)) (fun x hx => ((hx.put 0 0 (.int .u64 0) rfl).put 0 1 (.int .u64 18446744073709551615) rfl)) ?_
  refine lin_done ?_
  intro W1 hx
  replace HS := hid hx
  clear hx
  go_wp2
  have r0 := HS.out.load 0 0 rfl rfl
  have r1 := HS.out.load 0 1 rfl rfl
  exact bodyPost_ret (v := .agg #[.int .u64 0, .int .u64 18446744073709551615]) (by simp [results, Try.results18, go_sem, r0, r1]) rfl ⟨rfl, HS.out.below⟩
set_option maxRecDepth 100000 in
set_option maxHeartbeats 1000000 in
theorem ref_Sall_any   (w : World) :
    Calls Try.prog 53 #[] w fun e w' => e = .returned (.agg #[.int .i64 (ti (9223372036854775808#64)), .int .i64 (ti (9223372036854775807#64))]) ∧ Below w.heap.size w w' := by
  go_enter Try.func53, Try.ntmps53
  have HS := hid ((st_nil w).alloc (k := w.heap.size) rfl [.int .i64 0, .int .i64 0] 38)
  -- region 1
  go_upto_region 1 with fail
  refine lin_begin (St w [⟨w.heap.size, [some (.int .i64 0), some (.int .i64 0)], 38⟩]) rfl HS.out ?_
  refine lin_val (i := 0) (v := .agg #[.int .i64 (-9223372036854775808), .int .i64 9223372036854775807]) rfl rfl (by rfl) (by intro x hx; go_simp; (first | done | exact rfl)) ?_
  simp only [List.set_cons_succ, List.set_cons_zero]
  refine lin_store (i := 1) (St w [⟨w.heap.size, [some (.int .i64 (-9223372036854775808)), some (.int .i64 9223372036854775807)], 38⟩]) rfl rfl (by rfl) (fun x => ((x.setCell ⟨w.heap.size, 0, none⟩ (.int .i64 (-9223372036854775808))).setCell ⟨w.heap.size, 1, none⟩ (.int .i64 9223372036854775807))) (by intro x hx; obtain ⟨u0, z0⟩ := hx.has 0 0 rfl (by simp); have q0 := hx.soft 0 0 rfl; obtain ⟨u1, z1⟩ := hx.has 0 1 rfl (by simp); have q1 := hx.soft 0 1 rfl; go_simp; (first | done | rfl)) (fun x hx => ((hx.put 0 0 (.int .i64 (-9223372036854775808)) rfl).put 0 1 (.int .i64 9223372036854775807) rfl)) ?_
  refine lin_done ?_
  intro W1 hx
  replace HS := hid hx
  clear hx
  go_wp2
  have r0 := HS.out.load 0 0 rfl rfl
  have r1 := HS.out.load 0 1 rfl rfl
  exact bodyPost_ret (v := .agg #[.int .i64 (-9223372036854775808), .int .i64 9223372036854775807]) (by simp [results, Try.results53, go_sem, r0, r1]) rfl ⟨rfl, HS.out.below⟩
set_option maxRecDepth 100000 in
set_option maxHeartbeats 1000000 in
theorem ref_Of_any (x0 : BitVec 64)  (w : World) :
    Calls Try.prog 16 #[.int .u64 (tn (x0))] w fun e w' => e = .returned (.agg #[.int .u64 (tn (x0)), .int .u64 (tn (x0))]) ∧ Below w.heap.size w w' := by
  go_enter Try.func16, Try.ntmps16
  have HS := hid ((st_nil w).alloc (k := w.heap.size) rfl [.int .u64 0, .int .u64 0] 24)
  -- region 1
  go_upto_region 1 with fail
  refine lin_begin (St w [⟨w.heap.size, [some (.int .u64 0), some (.int .u64 0)], 24⟩]) rfl HS.out ?_
  refine lin_val (i := 0) (v := .int .u64 (tn (x0))) rfl rfl (by rfl) (by intro x hx; go_simp; (first | done | exact rfl)) ?_
  simp only [List.set_cons_succ, List.set_cons_zero]
  refine lin_val (i := 1) (v := .int .u64 (tn (x0))) rfl rfl (by rfl) (by intro x hx; go_simp; (first | done | exact rfl)) ?_
  simp only [List.set_cons_succ, List.set_cons_zero]
  refine lin_val (i := 2) (v := .agg #[.int .u64 (tn (x0)), .int .u64 (tn (x0))]) rfl rfl (by rfl) (by intro x hx; go_simp; (first | done | exact rfl)) ?_
  simp only [List.set_cons_succ, List.set_cons_zero]
  refine lin_store (i := 3) (St w [⟨w.heap.size, [some (.int .u64 (tn (x0))), some (.int .u64 (tn (x0)))], 24⟩]) rfl rfl (by rfl) (fun x => ((x.setCell ⟨w.heap.size, 0, none⟩ (.int .u64 (tn (x0)))).setCell ⟨w.heap.size, 1, none⟩ (.int .u64 (tn (x0))))) (by intro x hx; obtain ⟨u0, z0⟩ := hx.has 0 0 rfl (by simp); have q0 := hx.soft 0 0 rfl; obtain ⟨u1, z1⟩ := hx.has 0 1 rfl (by simp); have q1 := hx.soft 0 1 rfl; go_simp; (first | done | rfl)) (fun x hx => ((hx.put 0 0 (.int .u64 (tn (x0))) rfl).put 0 1 (.int .u64 (tn (x0))) rfl)) ?_
  refine lin_done ?_
  intro W1 hx
  replace HS := hid hx
  clear hx
  go_wp2
  have r0 := HS.out.load 0 0 rfl rfl
  have r1 := HS.out.load 0 1 rfl rfl
  exact bodyPost_ret (v := .agg #[.int .u64 (tn (x0)), .int .u64 (tn (x0))]) (by simp [results, Try.results16, go_sem, r0, r1]) rfl ⟨rfl, HS.out.below⟩
set_option maxRecDepth 100000 in
set_option maxHeartbeats 1000000 in
theorem ref_Sof_any (x0 : BitVec 64)  (w : World) :
    Calls Try.prog 51 #[.int .i64 (ti (x0))] w fun e w' => e = .returned (.agg #[.int .i64 (ti (x0)), .int .i64 (ti (x0))]) ∧ Below w.heap.size w w' := by
  go_enter Try.func51, Try.ntmps51
  have HS := hid ((st_nil w).alloc (k := w.heap.size) rfl [.int .i64 0, .int .i64 0] 38)
  -- region 1
  go_upto_region 1 with fail
  refine lin_begin (St w [⟨w.heap.size, [some (.int .i64 0), some (.int .i64 0)], 38⟩]) rfl HS.out ?_
  refine lin_val (i := 0) (v := .int .i64 (ti (x0))) rfl rfl (by rfl) (by intro x hx; go_simp; (first | done | exact rfl)) ?_
  simp only [List.set_cons_succ, List.set_cons_zero]
  refine lin_val (i := 1) (v := .int .i64 (ti (x0))) rfl rfl (by rfl) (by intro x hx; go_simp; (first | done | exact rfl)) ?_
  simp only [List.set_cons_succ, List.set_cons_zero]
  refine lin_val (i := 2) (v := .agg #[.int .i64 (ti (x0)), .int .i64 (ti (x0))]) rfl rfl (by rfl) (by intro x hx; go_simp; (first | done | exact rfl)) ?_
  simp only [List.set_cons_succ, List.set_cons_zero]
  refine lin_store (i := 3) (St w [⟨w.heap.size, [some (.int .i64 (ti (x0))), some (.int .i64 (ti (x0)))], 38⟩]) rfl rfl (by rfl) (fun x => ((x.setCell ⟨w.heap.size, 0, none⟩ (.int .i64 (ti (x0)))).setCell ⟨w.heap.size, 1, none⟩ (.int .i64 (ti (x0))))) (by intro x hx; obtain ⟨u0, z0⟩ := hx.has 0 0 rfl (by simp); have q0 := hx.soft 0 0 rfl; obtain ⟨u1, z1⟩ := hx.has 0 1 rfl (by simp); have q1 := hx.soft 0 1 rfl; go_simp; (first | done | rfl)) (fun x hx => ((hx.put 0 0 (.int .i64 (ti (x0))) rfl).put 0 1 (.int .i64 (ti (x0))) rfl)) ?_
  refine lin_done ?_
  intro W1 hx
  replace HS := hid hx
  clear hx
  go_wp2
  have r0 := HS.out.load 0 0 rfl rfl
  have r1 := HS.out.load 0 1 rfl rfl
  exact bodyPost_ret (v := .agg #[.int .i64 (ti (x0)), .int .i64 (ti (x0))]) (by simp [results, Try.results51, go_sem, r0, r1]) rfl ⟨rfl, HS.out.below⟩
def ref_In (x0 : P) (x1 : BitVec 64) : Bool :=
  bif geU x1 x0.lo then (leU x1 x0.hi) else (false)
set_option maxRecDepth 100000 in
set_option maxHeartbeats 1000000 in
theorem ref_In_any (x0 : P) (x1 : BitVec 64)  (w : World) :
    Calls Try.prog 20 #[.agg #[.int .u64 (tn (x0.lo)), .int .u64 (tn (x0.hi))], .int .u64 (tn (x1))] w fun e w' => e = .returned (.bool (ref_In x0 x1)) ∧ Below w.heap.size w w' := by
  go_enter Try.func20, Try.ntmps20
  have HS := hid ((st_nil w).alloc (k := w.heap.size) rfl [.int .u64 (tn (x0.lo)), .int .u64 (tn (x0.hi))] 24)
  -- region 1
  go_upto_region 1 with fail
  refine lin_begin (St w [⟨w.heap.size, [some (.int .u64 (tn (x0.lo))), some (.int .u64 (tn (x0.hi)))], 24⟩]) rfl HS.out ?_
  refine lin_val (i := 0) (v := .int .u64 (tn (x1))) rfl rfl (by rfl) (by intro x hx; go_simp; (first | done | exact rfl)) ?_
  simp only [List.set_cons_succ, List.set_cons_zero]
  refine lin_val (i := 1) (v := .pointer (some ⟨w.heap.size, 0, none⟩)) rfl rfl (by rfl) (by intro x hx; go_simp; (first | done | exact rfl)) ?_
  simp only [List.set_cons_succ, List.set_cons_zero]
  refine lin_val (i := 2) (v := .int .u64 (tn (x0.lo))) rfl rfl (by rfl) (by intro x hx; have f0 := hx.load 0 0 rfl rfl; go_simp; (first | done | exact rfl)) ?_
  simp only [List.set_cons_succ, List.set_cons_zero]
  refine lin_val (i := 3) (v := .bool (geU x1 x0.lo)) rfl rfl (by rfl) (by intro x hx; go_simp; (first | done | exact geUT x1 x0.lo | exact congrArg _ (geUT x1 x0.lo) | (rw [geUT x1 x0.lo]; done) | (rw [geUT x1 x0.lo]; rfl))) ?_
  simp only [List.set_cons_succ, List.set_cons_zero]
  refine lin_val (i := 4) (v := .bool (geU x1 x0.lo)) rfl rfl (by rfl) (by intro x hx; go_simp; (first | done | exact rfl)) ?_
  simp only [List.set_cons_succ, List.set_cons_zero]
  cases h1 : (geU x1 x0.lo)
  · replace h1 := hid h1
    refine lin_no (i := 5) rfl rfl (by kernel_rfl) ?_
    simp only [List.set_cons_succ, List.set_cons_zero]
    refine lin_no (i := 6) rfl rfl (by kernel_rfl) ?_
    simp only [List.set_cons_succ, List.set_cons_zero]
    refine lin_no (i := 7) rfl rfl (by kernel_rfl) ?_
    simp only [List.set_cons_succ, List.set_cons_zero]
    refine lin_no (i := 8) rfl rfl (by kernel_rfl) ?_
    simp only [List.set_cons_succ, List.set_cons_zero]
    refine lin_val (i := 9) (v := .bool false) rfl rfl (by rfl) (by intro x hx; go_simp; (first | done | exact rfl)) ?_
    simp only [List.set_cons_succ, List.set_cons_zero]
    refine lin_val (i := 10) (v := .bool false) rfl rfl (by rfl) (by intro x hx; go_simp; (first | done | exact rfl)) ?_
    simp only [List.set_cons_succ, List.set_cons_zero]
    refine lin_done ?_
    intro W1 hx
    replace HS := hid hx
    clear hx
    go_wp2
    have HF : ref_In x0 x1 = false := by
      unfold ref_In
      rw [cond_f h1.out]
    exact bodyPost_ret (v := .bool false) (by simp [results, Try.results20, go_sem]) rfl ⟨(by first | (rw [HF]; done) | (rw [HF]; rfl)), HS.out.below⟩
  · replace h1 := hid h1
    refine lin_val (i := 5) (v := .int .u64 (tn (x1))) rfl rfl (by rfl) (by intro x hx; go_simp; (first | done | exact rfl)) ?_
    simp only [List.set_cons_succ, List.set_cons_zero]
    refine lin_val (i := 6) (v := .pointer (some ⟨w.heap.size, 1, none⟩)) rfl rfl (by rfl) (by intro x hx; go_simp; (first | done | exact rfl)) ?_
    simp only [List.set_cons_succ, List.set_cons_zero]
    refine lin_val (i := 7) (v := .int .u64 (tn (x0.hi))) rfl rfl (by rfl) (by intro x hx; have f0 := hx.load 0 1 rfl rfl; go_simp; (first | done | exact rfl)) ?_
    simp only [List.set_cons_succ, List.set_cons_zero]
    refine lin_val (i := 8) (v := .bool (leU x1 x0.hi)) rfl rfl (by rfl) (by intro x hx; go_simp; (first | done | exact leUT x1 x0.hi | exact congrArg _ (leUT x1 x0.hi) | (rw [leUT x1 x0.hi]; done) | (rw [leUT x1 x0.hi]; rfl))) ?_
    simp only [List.set_cons_succ, List.set_cons_zero]
    refine lin_val (i := 9) (v := .bool (leU x1 x0.hi)) rfl rfl (by rfl) (by intro x hx; go_simp; (first | done | exact rfl)) ?_
    simp only [List.set_cons_succ, List.set_cons_zero]
    refine lin_val (i := 10) (v := .bool (leU x1 x0.hi)) rfl rfl (by rfl) (by intro x hx; go_simp; (first | done | exact rfl)) ?_
    simp only [List.set_cons_succ, List.set_cons_zero]
    refine lin_done ?_
    intro W1 hx
    replace HS := hid hx
    clear hx
    go_wp2
    have HF : ref_In x0 x1 = leU x1 x0.hi := by
      unfold ref_In
      rw [cond_t h1.out]
    exact bodyPost_ret (v := .bool (leU x1 x0.hi)) (by simp [results, Try.results20, go_sem]) rfl ⟨(by first | (rw [HF]; done) | (rw [HF]; rfl)), HS.out.below⟩
def ref_Sin (x0 : P) (x1 : BitVec 64) : Bool :=
  bif geI x1 x0.lo then (leI x1 x0.hi) else (false)
set_option maxRecDepth 100000 in
set_option maxHeartbeats 1000000 in
theorem ref_Sin_any (x0 : P) (x1 : BitVec 64)  (w : World) :
    Calls Try.prog 55 #[.agg #[.int .i64 (ti (x0.lo)), .int .i64 (ti (x0.hi))], .int .i64 (ti (x1))] w fun e w' => e = .returned (.bool (ref_Sin x0 x1)) ∧ Below w.heap.size w w' := by
  go_enter Try.func55, Try.ntmps55
  have HS := hid ((st_nil w).alloc (k := w.heap.size) rfl [.int .i64 (ti (x0.lo)), .int .i64 (ti (x0.hi))] 38)
  -- region 1
  go_upto_region 1 with fail
  refine lin_begin (St w [⟨w.heap.size, [some (.int .i64 (ti (x0.lo))), some (.int .i64 (ti (x0.hi)))], 38⟩]) rfl HS.out ?_
  refine lin_val (i := 0) (v := .int .i64 (ti (x1))) rfl rfl (by rfl) (by intro x hx; go_simp; (first | done | exact rfl)) ?_
  simp only [List.set_cons_succ, List.set_cons_zero]
  refine lin_val (i := 1) (v := .pointer (some ⟨w.heap.size, 0, none⟩)) rfl rfl (by rfl) (by intro x hx; go_simp; (first | done | exact rfl)) ?_
  simp only [List.set_cons_succ, List.set_cons_zero]
  refine lin_val (i := 2) (v := .int .i64 (ti (x0.lo))) rfl rfl (by rfl) (by intro x hx; have f0 := hx.load 0 0 rfl rfl; go_simp; (first | done | exact rfl)) ?_
  simp only [List.set_cons_succ, List.set_cons_zero]
  refine lin_val (i := 3) (v := .bool (geI x1 x0.lo)) rfl rfl (by rfl) (by intro x hx; go_simp; (first | done | exact geIT x1 x0.lo | exact congrArg _ (geIT x1 x0.lo) | (rw [geIT x1 x0.lo]; done) | (rw [geIT x1 x0.lo]; rfl))) ?_
  simp only [List.set_cons_succ, List.set_cons_zero]
  refine lin_val (i := 4) (v := .bool (geI x1 x0.lo)) rfl rfl (by rfl) (by intro x hx; go_simp; (first | done | exact rfl)) ?_
  simp only [List.set_cons_succ, List.set_cons_zero]
  cases h1 : (geI x1 x0.lo)
  · replace h1 := hid h1
    refine lin_no (i := 5) rfl rfl (by kernel_rfl) ?_
    simp only [List.set_cons_succ, List.set_cons_zero]
    refine lin_no (i := 6) rfl rfl (by kernel_rfl) ?_
    simp only [List.set_cons_succ, List.set_cons_zero]
    refine lin_no (i := 7) rfl rfl (by kernel_rfl) ?_
    simp only [List.set_cons_succ, List.set_cons_zero]
    refine lin_no (i := 8) rfl rfl (by kernel_rfl) ?_
    simp only [List.set_cons_succ, List.set_cons_zero]
    refine lin_val (i := 9) (v := .bool false) rfl rfl (by rfl) (by intro x hx; go_simp; (first | done | exact rfl)) ?_
    simp only [List.set_cons_succ, List.set_cons_zero]
    refine lin_val (i := 10) (v := .bool false) rfl rfl (by rfl) (by intro x hx; go_simp; (first | done | exact rfl)) ?_
    simp only [List.set_cons_succ, List.set_cons_zero]
    refine lin_done ?_
    intro W1 hx
    replace HS := hid hx
    clear hx
    go_wp2
    have HF : ref_Sin x0 x1 = false := by
      unfold ref_Sin
      rw [cond_f h1.out]
    exact bodyPost_ret (v := .bool false) (by simp [results, Try.results55, go_sem]) rfl ⟨(by first | (rw [HF]; done) | (rw [HF]; rfl)), HS.out.below⟩
  · replace h1 := hid h1
    refine lin_val (i := 5) (v := .int .i64 (ti (x1))) rfl rfl (by rfl) (by intro x hx; go_simp; (first | done | exact rfl)) ?_
    simp only [List.set_cons_succ, List.set_cons_zero]
    refine lin_val (i := 6) (v := .pointer (some ⟨w.heap.size, 1, none⟩)) rfl rfl (by rfl) (by intro x hx; go_simp; (first | done | exact rfl)) ?_
    simp only [List.set_cons_succ, List.set_cons_zero]
    refine lin_val (i := 7) (v := .int .i64 (ti (x0.hi))) rfl rfl (by rfl) (by intro x hx; have f0 := hx.load 0 1 rfl rfl; go_simp; (first | done | exact rfl)) ?_
    simp only [List.set_cons_succ, List.set_cons_zero]
    refine lin_val (i := 8) (v := .bool (leI x1 x0.hi)) rfl rfl (by rfl) (by intro x hx; go_simp; (first | done | exact leIT x1 x0.hi | exact congrArg _ (leIT x1 x0.hi) | (rw [leIT x1 x0.hi]; done) | (rw [leIT x1 x0.hi]; rfl))) ?_
    simp only [List.set_cons_succ, List.set_cons_zero]
    refine lin_val (i := 9) (v := .bool (leI x1 x0.hi)) rfl rfl (by rfl) (by intro x hx; go_simp; (first | done | exact rfl)) ?_
    simp only [List.set_cons_succ, List.set_cons_zero]
    refine lin_val (i := 10) (v := .bool (leI x1 x0.hi)) rfl rfl (by rfl) (by intro x hx; go_simp; (first | done | exact rfl)) ?_
    simp only [List.set_cons_succ, List.set_cons_zero]
    refine lin_done ?_
    intro W1 hx
    replace HS := hid hx
    clear hx
    go_wp2
    have HF : ref_Sin x0 x1 = leI x1 x0.hi := by
      unfold ref_Sin
      rw [cond_t h1.out]
    exact bodyPost_ret (v := .bool (leI x1 x0.hi)) (by simp [results, Try.results55, go_sem]) rfl ⟨(by first | (rw [HF]; done) | (rw [HF]; rfl)), HS.out.below⟩
def ref_Within (x0 : P) (x1 : P) : Bool :=
  bif geU x0.lo x1.lo then (leU x0.hi x1.hi) else (false)
set_option maxRecDepth 100000 in
set_option maxHeartbeats 1000000 in
theorem ref_Within_any (x0 : P) (x1 : P)  (w : World) :
    Calls Try.prog 22 #[.agg #[.int .u64 (tn (x0.lo)), .int .u64 (tn (x0.hi))], .agg #[.int .u64 (tn (x1.lo)), .int .u64 (tn (x1.hi))]] w fun e w' => e = .returned (.bool (ref_Within x0 x1)) ∧ Below w.heap.size w w' := by
  go_enter Try.func22, Try.ntmps22
  have HS := hid (((st_nil w).alloc (k := w.heap.size) rfl [.int .u64 (tn (x0.lo)), .int .u64 (tn (x0.hi))] 24).alloc (k := w.heap.size + 1) (by simp) [.int .u64 (tn (x1.lo)), .int .u64 (tn (x1.hi))] 24)
  -- region 1
  go_upto_region 1 with fail
  refine lin_begin (St w [⟨w.heap.size, [some (.int .u64 (tn (x0.lo))), some (.int .u64 (tn (x0.hi)))], 24⟩, ⟨w.heap.size + 1, [some (.int .u64 (tn (x1.lo))), some (.int .u64 (tn (x1.hi)))], 24⟩]) rfl HS.out ?_
  refine lin_val (i := 0) (v := .pointer (some ⟨w.heap.size, 0, none⟩)) rfl rfl (by rfl) (by intro x hx; go_simp; (first | done | exact rfl)) ?_
  simp only [List.set_cons_succ, List.set_cons_zero]
  refine lin_val (i := 1) (v := .int .u64 (tn (x0.lo))) rfl rfl (by rfl) (by intro x hx; have f0 := hx.load 0 0 rfl rfl; go_simp; (first | done | exact rfl)) ?_
  simp only [List.set_cons_succ, List.set_cons_zero]
  refine lin_val (i := 2) (v := .pointer (some ⟨w.heap.size + 1, 0, none⟩)) rfl rfl (by rfl) (by intro x hx; go_simp; (first | done | exact rfl)) ?_
  simp only [List.set_cons_succ, List.set_cons_zero]
  refine lin_val (i := 3) (v := .int .u64 (tn (x1.lo))) rfl rfl (by rfl) (by intro x hx; have f0 := hx.load 1 0 rfl rfl; go_simp; (first | done | exact rfl)) ?_
  simp only [List.set_cons_succ, List.set_cons_zero]
  refine lin_val (i := 4) (v := .bool (geU x0.lo x1.lo)) rfl rfl (by rfl) (by intro x hx; go_simp; (first | done | exact geUT x0.lo x1.lo | exact congrArg _ (geUT x0.lo x1.lo) | (rw [geUT x0.lo x1.lo]; done) | (rw [geUT x0.lo x1.lo]; rfl))) ?_
  simp only [List.set_cons_succ, List.set_cons_zero]
  refine lin_val (i := 5) (v := .bool (geU x0.lo x1.lo)) rfl rfl (by rfl) (by intro x hx; go_simp; (first | done | exact rfl)) ?_
  simp only [List.set_cons_succ, List.set_cons_zero]
  cases h1 : (geU x0.lo x1.lo)
  · replace h1 := hid h1
    refine lin_no (i := 6) rfl rfl (by kernel_rfl) ?_
    simp only [List.set_cons_succ, List.set_cons_zero]
    refine lin_no (i := 7) rfl rfl (by kernel_rfl) ?_
    simp only [List.set_cons_succ, List.set_cons_zero]
    refine lin_no (i := 8) rfl rfl (by kernel_rfl) ?_
    simp only [List.set_cons_succ, List.set_cons_zero]
    refine lin_no (i := 9) rfl rfl (by kernel_rfl) ?_
    simp only [List.set_cons_succ, List.set_cons_zero]
    refine lin_no (i := 10) rfl rfl (by kernel_rfl) ?_
    simp only [List.set_cons_succ, List.set_cons_zero]
    refine lin_val (i := 11) (v := .bool false) rfl rfl (by rfl) (by intro x hx; go_simp; (first | done | exact rfl)) ?_
    simp only [List.set_cons_succ, List.set_cons_zero]
    refine lin_val (i := 12) (v := .bool false) rfl rfl (by rfl) (by intro x hx; go_simp; (first | done | exact rfl)) ?_
    simp only [List.set_cons_succ, List.set_cons_zero]
    refine lin_done ?_
    intro W1 hx
    replace HS := hid hx
    clear hx
    go_wp2
    have HF : ref_Within x0 x1 = false := by
      unfold ref_Within
      rw [cond_f h1.out]
    exact bodyPost_ret (v := .bool false) (by simp [results, Try.results22, go_sem]) rfl ⟨(by first | (rw [HF]; done) | (rw [HF]; rfl)), HS.out.below⟩
  · replace h1 := hid h1
    refine lin_val (i := 6) (v := .pointer (some ⟨w.heap.size, 1, none⟩)) rfl rfl (by rfl) (by intro x hx; go_simp; (first | done | exact rfl)) ?_
    simp only [List.set_cons_succ, List.set_cons_zero]
    refine lin_val (i := 7) (v := .int .u64 (tn (x0.hi))) rfl rfl (by rfl) (by intro x hx; have f0 := hx.load 0 1 rfl rfl; go_simp; (first | done | exact rfl)) ?_
    simp only [List.set_cons_succ, List.set_cons_zero]
    refine lin_val (i := 8) (v := .pointer (some ⟨w.heap.size + 1, 1, none⟩)) rfl rfl (by rfl) (by intro x hx; go_simp; (first | done | exact rfl)) ?_
    simp only [List.set_cons_succ, List.set_cons_zero]
    refine lin_val (i := 9) (v := .int .u64 (tn (x1.hi))) rfl rfl (by rfl) (by intro x hx; have f0 := hx.load 1 1 rfl rfl; go_simp; (first | done | exact rfl)) ?_
    simp only [List.set_cons_succ, List.set_cons_zero]
    refine lin_val (i := 10) (v := .bool (leU x0.hi x1.hi)) rfl rfl (by rfl) (by intro x hx; go_simp; (first | done | exact leUT x0.hi x1.hi | exact congrArg _ (leUT x0.hi x1.hi) | (rw [leUT x0.hi x1.hi]; done) | (rw [leUT x0.hi x1.hi]; rfl))) ?_
    simp only [List.set_cons_succ, List.set_cons_zero]
    refine lin_val (i := 11) (v := .bool (leU x0.hi x1.hi)) rfl rfl (by rfl) (by intro x hx; go_simp; (first | done | exact rfl)) ?_
    simp only [List.set_cons_succ, List.set_cons_zero]
    refine lin_val (i := 12) (v := .bool (leU x0.hi x1.hi)) rfl rfl (by rfl) (by intro x hx; go_simp; (first | done | exact rfl)) ?_
    simp only [List.set_cons_succ, List.set_cons_zero]
    refine lin_done ?_
    intro W1 hx
    replace HS := hid hx
    clear hx
    go_wp2
    have HF : ref_Within x0 x1 = leU x0.hi x1.hi := by
      unfold ref_Within
      rw [cond_t h1.out]
    exact bodyPost_ret (v := .bool (leU x0.hi x1.hi)) (by simp [results, Try.results22, go_sem]) rfl ⟨(by first | (rw [HF]; done) | (rw [HF]; rfl)), HS.out.below⟩
def ref_Swithin (x0 : P) (x1 : P) : Bool :=
  bif geI x0.lo x1.lo then (leI x0.hi x1.hi) else (false)
set_option maxRecDepth 100000 in
set_option maxHeartbeats 1000000 in
theorem ref_Swithin_any (x0 : P) (x1 : P)  (w : World) :
    Calls Try.prog 57 #[.agg #[.int .i64 (ti (x0.lo)), .int .i64 (ti (x0.hi))], .agg #[.int .i64 (ti (x1.lo)), .int .i64 (ti (x1.hi))]] w fun e w' => e = .returned (.bool (ref_Swithin x0 x1)) ∧ Below w.heap.size w w' := by
  go_enter Try.func57, Try.ntmps57
  have HS := hid (((st_nil w).alloc (k := w.heap.size) rfl [.int .i64 (ti (x0.lo)), .int .i64 (ti (x0.hi))] 38).alloc (k := w.heap.size + 1) (by simp) [.int .i64 (ti (x1.lo)), .int .i64 (ti (x1.hi))] 38)
  -- region 1
  go_upto_region 1 with fail
  refine lin_begin (St w [⟨w.heap.size, [some (.int .i64 (ti (x0.lo))), some (.int .i64 (ti (x0.hi)))], 38⟩, ⟨w.heap.size + 1, [some (.int .i64 (ti (x1.lo))), some (.int .i64 (ti (x1.hi)))], 38⟩]) rfl HS.out ?_
  refine lin_val (i := 0) (v := .pointer (some ⟨w.heap.size, 0, none⟩)) rfl rfl (by rfl) (by intro x hx; go_simp; (first | done | exact rfl)) ?_
  simp only [List.set_cons_succ, List.set_cons_zero]
  refine lin_val (i := 1) (v := .int .i64 (ti (x0.lo))) rfl rfl (by rfl) (by intro x hx; have f0 := hx.load 0 0 rfl rfl; go_simp; (first | done | exact rfl)) ?_
  simp only [List.set_cons_succ, List.set_cons_zero]
  refine lin_val (i := 2) (v := .pointer (some ⟨w.heap.size + 1, 0, none⟩)) rfl rfl (by rfl) (by intro x hx; go_simp; (first | done | exact rfl)) ?_
  simp only [List.set_cons_succ, List.set_cons_zero]
  refine lin_val (i := 3) (v := .int .i64 (ti (x1.lo))) rfl rfl (by rfl) (by intro x hx; have f0 := hx.load 1 0 rfl rfl; go_simp; (first | done | exact rfl)) ?_
  simp only [List.set_cons_succ, List.set_cons_zero]
  refine lin_val (i := 4) (v := .bool (geI x0.lo x1.lo)) rfl rfl (by rfl) (by intro x hx; go_simp; (first | done | exact geIT x0.lo x1.lo | exact congrArg _ (geIT x0.lo x1.lo) | (rw [geIT x0.lo x1.lo]; done) | (rw [geIT x0.lo x1.lo]; rfl))) ?_
  simp only [List.set_cons_succ, List.set_cons_zero]
  refine lin_val (i := 5) (v := .bool (geI x0.lo x1.lo)) rfl rfl (by rfl) (by intro x hx; go_simp; (first | done | exact rfl)) ?_
  simp only [List.set_cons_succ, List.set_cons_zero]
  cases h1 : (geI x0.lo x1.lo)
  · replace h1 := hid h1
    refine lin_no (i := 6) rfl rfl (by kernel_rfl) ?_
    simp only [List.set_cons_succ, List.set_cons_zero]
    refine lin_no (i := 7) rfl rfl (by kernel_rfl) ?_
    simp only [List.set_cons_succ, List.set_cons_zero]
    refine lin_no (i := 8) rfl rfl (by kernel_rfl) ?_
    simp only [List.set_cons_succ, List.set_cons_zero]
    refine lin_no (i := 9) rfl rfl (by kernel_rfl) ?_
    simp only [List.set_cons_succ, List.set_cons_zero]
    refine lin_no (i := 10) rfl rfl (by kernel_rfl) ?_
    simp only [List.set_cons_succ, List.set_cons_zero]
    refine lin_val (i := 11) (v := .bool false) rfl rfl (by rfl) (by intro x hx; go_simp; (first | done | exact rfl)) ?_
    simp only [List.set_cons_succ, List.set_cons_zero]
    refine lin_val (i := 12) (v := .bool false) rfl rfl (by rfl) (by intro x hx; go_simp; (first | done | exact rfl)) ?_
    simp only [List.set_cons_succ, List.set_cons_zero]
    refine lin_done ?_
    intro W1 hx
    replace HS := hid hx
    clear hx
    go_wp2
    have HF : ref_Swithin x0 x1 = false := by
      unfold ref_Swithin
      rw [cond_f h1.out]
    exact bodyPost_ret (v := .bool false) (by simp [results, Try.results57, go_sem]) rfl ⟨(by first | (rw [HF]; done) | (rw [HF]; rfl)), HS.out.below⟩
  · replace h1 := hid h1
    refine lin_val (i := 6) (v := .pointer (some ⟨w.heap.size, 1, none⟩)) rfl rfl (by rfl) (by intro x hx; go_simp; (first | done | exact rfl)) ?_
    simp only [List.set_cons_succ, List.set_cons_zero]
    refine lin_val (i := 7) (v := .int .i64 (ti (x0.hi))) rfl rfl (by rfl) (by intro x hx; have f0 := hx.load 0 1 rfl rfl; go_simp; (first | done | exact rfl)) ?_
    simp only [List.set_cons_succ, List.set_cons_zero]
    refine lin_val (i := 8) (v := .pointer (some ⟨w.heap.size + 1, 1, none⟩)) rfl rfl (by rfl) (by intro x hx; go_simp; (first | done | exact rfl)) ?_
    simp only [List.set_cons_succ, List.set_cons_zero]
    refine lin_val (i := 9) (v := .int .i64 (ti (x1.hi))) rfl rfl (by rfl) (by intro x hx; have f0 := hx.load 1 1 rfl rfl; go_simp; (first | done | exact rfl)) ?_
    simp only [List.set_cons_succ, List.set_cons_zero]
    refine lin_val (i := 10) (v := .bool (leI x0.hi x1.hi)) rfl rfl (by rfl) (by intro x hx; go_simp; (first | done | exact leIT x0.hi x1.hi | exact congrArg _ (leIT x0.hi x1.hi) | (rw [leIT x0.hi x1.hi]; done) | (rw [leIT x0.hi x1.hi]; rfl))) ?_
    simp only [List.set_cons_succ, List.set_cons_zero]
    refine lin_val (i := 11) (v := .bool (leI x0.hi x1.hi)) rfl rfl (by rfl) (by intro x hx; go_simp; (first | done | exact rfl)) ?_
    simp only [List.set_cons_succ, List.set_cons_zero]
    refine lin_val (i := 12) (v := .bool (leI x0.hi x1.hi)) rfl rfl (by rfl) (by intro x hx; go_simp; (first | done | exact rfl)) ?_
    simp only [List.set_cons_succ, List.set_cons_zero]
    refine lin_done ?_
    intro W1 hx
    replace HS := hid hx
    clear hx
    go_wp2
    have HF : ref_Swithin x0 x1 = leI x0.hi x1.hi := by
      unfold ref_Swithin
      rw [cond_t h1.out]
    exact bodyPost_ret (v := .bool (leI x0.hi x1.hi)) (by simp [results, Try.results57, go_sem]) rfl ⟨(by first | (rw [HF]; done) | (rw [HF]; rfl)), HS.out.below⟩
def ref_Join (x0 : P) (x1 : P) : P :=
  bif ltU x1.lo x0.lo then (bif gtU x1.hi x0.hi then (x1) else (P.mk x1.lo x0.hi)) else (bif gtU x1.hi x0.hi then (P.mk x0.lo x1.hi) else (x0))
set_option maxRecDepth 100000 in
set_option maxHeartbeats 1000000 in
theorem ref_Join_any (x0 : P) (x1 : P)  (w : World) :
    Calls Try.prog 24 #[.agg #[.int .u64 (tn (x0.lo)), .int .u64 (tn (x0.hi))], .agg #[.int .u64 (tn (x1.lo)), .int .u64 (tn (x1.hi))]] w fun e w' => e = .returned (.agg #[.int .u64 (tn ((ref_Join x0 x1).lo)), .int .u64 (tn ((ref_Join x0 x1).hi))]) ∧ Below w.heap.size w w' := by
  go_enter Try.func24, Try.ntmps24
  have HS := hid ((((st_nil w).alloc (k := w.heap.size) rfl [.int .u64 (tn (x0.lo)), .int .u64 (tn (x0.hi))] 24).alloc (k := w.heap.size + 1) (by simp) [.int .u64 (tn (x1.lo)), .int .u64 (tn (x1.hi))] 24).alloc (k := w.heap.size + 2) (by simp) [.int .u64 0, .int .u64 0] 24)
  -- region 1
  go_upto_region 1 with fail
  refine lin_begin (St w [⟨w.heap.size, [some (.int .u64 (tn (x0.lo))), some (.int .u64 (tn (x0.hi)))], 24⟩, ⟨w.heap.size + 1, [some (.int .u64 (tn (x1.lo))), some (.int .u64 (tn (x1.hi)))], 24⟩, ⟨w.heap.size + 2, [some (.int .u64 0), some (.int .u64 0)], 24⟩]) rfl HS.out ?_
  refine lin_val (i := 0) (v := .pointer (some ⟨w.heap.size + 1, 0, none⟩)) rfl rfl (by rfl) (by intro x hx; go_simp; (first | done | exact rfl)) ?_
  simp only [List.set_cons_succ, List.set_cons_zero]
  refine lin_val (i := 1) (v := .int .u64 (tn (x1.lo))) rfl rfl (by rfl) (by intro x hx; have f0 := hx.load 1 0 rfl rfl; go_simp; (first | done | exact rfl)) ?_
  simp only [List.set_cons_succ, List.set_cons_zero]
  refine lin_val (i := 2) (v := .pointer (some ⟨w.heap.size, 0, none⟩)) rfl rfl (by rfl) (by intro x hx; go_simp; (first | done | exact rfl)) ?_
  simp only [List.set_cons_succ, List.set_cons_zero]
  refine lin_val (i := 3) (v := .int .u64 (tn (x0.lo))) rfl rfl (by rfl) (by intro x hx; have f0 := hx.load 0 0 rfl rfl; go_simp; (first | done | exact rfl)) ?_
  simp only [List.set_cons_succ, List.set_cons_zero]
  refine lin_val (i := 4) (v := .bool (ltU x1.lo x0.lo)) rfl rfl (by rfl) (by intro x hx; go_simp; (first | done | exact ltUT x1.lo x0.lo | exact congrArg _ (ltUT x1.lo x0.lo) | (rw [ltUT x1.lo x0.lo]; done) | (rw [ltUT x1.lo x0.lo]; rfl))) ?_
  simp only [List.set_cons_succ, List.set_cons_zero]
  refine lin_done ?_
  intro W1 hx
  replace HS := hid hx
  clear hx
  cases h1 : (ltU x1.lo x0.lo)
  · replace h1 := hid h1
    -- region 3
    go_upto_region 3 with fail
    refine lin_begin (St w [⟨w.heap.size, [some (.int .u64 (tn (x0.lo))), some (.int .u64 (tn (x0.hi)))], 24⟩, ⟨w.heap.size + 1, [some (.int .u64 (tn (x1.lo))), some (.int .u64 (tn (x1.hi)))], 24⟩, ⟨w.heap.size + 2, [some (.int .u64 0), some (.int .u64 0)], 24⟩]) rfl HS.out ?_
    refine lin_val (i := 0) (v := .pointer (some ⟨w.heap.size + 1, 1, none⟩)) rfl rfl (by rfl) (by intro x hx; go_simp; (first | done | exact rfl)) ?_
    simp only [List.set_cons_succ, List.set_cons_zero]
    refine lin_val (i := 1) (v := .int .u64 (tn (x1.hi))) rfl rfl (by rfl) (by intro x hx; have f0 := hx.load 1 1 rfl rfl; go_simp; (first | done | exact rfl)) ?_
    simp only [List.set_cons_succ, List.set_cons_zero]
    refine lin_val (i := 2) (v := .pointer (some ⟨w.heap.size, 1, none⟩)) rfl rfl (by rfl) (by intro x hx; go_simp; (first | done | exact rfl)) ?_
    simp only [List.set_cons_succ, List.set_cons_zero]
    refine lin_val (i := 3) (v := .int .u64 (tn (x0.hi))) rfl rfl (by rfl) (by intro x hx; have f0 := hx.load 0 1 rfl rfl; go_simp; (first | done | exact rfl)) ?_
    simp only [List.set_cons_succ, List.set_cons_zero]
    refine lin_val (i := 4) (v := .bool (gtU x1.hi x0.hi)) rfl rfl (by rfl) (by intro x hx; go_simp; (first | done | exact gtUT x1.hi x0.hi | exact congrArg _ (gtUT x1.hi x0.hi) | (rw [gtUT x1.hi x0.hi]; done) | (rw [gtUT x1.hi x0.hi]; rfl))) ?_
    simp only [List.set_cons_succ, List.set_cons_zero]
    refine lin_done ?_
    intro W2 hx
    replace HS := hid hx
    clear hx
    cases h2 : (gtU x1.hi x0.hi)
    · replace h2 := hid h2
      -- region 5
      go_upto_region 5 with fail
      refine lin_begin (St w [⟨w.heap.size, [some (.int .u64 (tn (x0.lo))), some (.int .u64 (tn (x0.hi)))], 24⟩, ⟨w.heap.size + 1, [some (.int .u64 (tn (x1.lo))), some (.int .u64 (tn (x1.hi)))], 24⟩, ⟨w.heap.size + 2, [some (.int .u64 0), some (.int .u64 0)], 24⟩]) rfl HS.out ?_
      refine lin_val (i := 0) (v := .agg #[.int .u64 (tn (x0.lo)), .int .u64 (tn (x0.hi))]) rfl rfl (by rfl) (by intro x hx; have f0 := hx.load 0 0 rfl rfl; have f1 := hx.load 0 1 rfl rfl; go_simp; (first | done | exact rfl)) ?_
      simp only [List.set_cons_succ, List.set_cons_zero]
      refine lin_store (i := 1) (St w [⟨w.heap.size, [some (.int .u64 (tn (x0.lo))), some (.int .u64 (tn (x0.hi)))], 24⟩, ⟨w.heap.size + 1, [some (.int .u64 (tn (x1.lo))), some (.int .u64 (tn (x1.hi)))], 24⟩, ⟨w.heap.size + 2, [some (.int .u64 (tn (x0.lo))), some (.int .u64 (tn (x0.hi)))], 24⟩]) rfl rfl (by rfl) (fun x => ((x.setCell ⟨w.heap.size + 2, 0, none⟩ (.int .u64 (tn (x0.lo)))).setCell ⟨w.heap.size + 2, 1, none⟩ (.int .u64 (tn (x0.hi))))) (by intro x hx; obtain ⟨u0, z0⟩ := hx.has 2 0 rfl (by simp); have q0 := hx.soft 2 0 rfl; obtain ⟨u1, z1⟩ := hx.has 2 1 rfl (by simp); have q1 := hx.soft 2 1 rfl; go_simp; (first | done | rfl)) (fun x hx => ((hx.put 2 0 (.int .u64 (tn (x0.lo))) rfl).put 2 1 (.int .u64 (tn (x0.hi))) rfl)) ?_
      refine lin_done ?_
      intro W3 hx
      replace HS := hid hx
      clear hx
      go_wp2
      have r0 := HS.out.load 2 0 rfl rfl
      have r1 := HS.out.load 2 1 rfl rfl
      have HF : ref_Join x0 x1 = x0 := by
        unfold ref_Join
        rw [cond_f h1.out, cond_f h2.out]
      exact bodyPost_ret (v := .agg #[.int .u64 (tn (x0.lo)), .int .u64 (tn (x0.hi))]) (by simp [results, Try.results24, go_sem, r0, r1]) rfl ⟨(by first | (rw [HF]; done) | (rw [HF]; rfl)), HS.out.below⟩
    · replace h2 := hid h2
      -- region 4
      go_upto_region 4 with fail
      refine lin_begin (St w [⟨w.heap.size, [some (.int .u64 (tn (x0.lo))), some (.int .u64 (tn (x0.hi)))], 24⟩, ⟨w.heap.size + 1, [some (.int .u64 (tn (x1.lo))), some (.int .u64 (tn (x1.hi)))], 24⟩, ⟨w.heap.size + 2, [some (.int .u64 0), some (.int .u64 0)], 24⟩]) rfl HS.out ?_
      refine lin_val (i := 0) (v := .pointer (some ⟨w.heap.size + 1, 1, none⟩)) rfl rfl (by rfl) (by intro x hx; go_simp; (first | done | exact rfl)) ?_
      simp only [List.set_cons_succ, List.set_cons_zero]
      refine lin_val (i := 1) (v := .int .u64 (tn (x1.hi))) rfl rfl (by rfl) (by intro x hx; have f0 := hx.load 1 1 rfl rfl; go_simp; (first | done | exact rfl)) ?_
      simp only [List.set_cons_succ, List.set_cons_zero]
      refine lin_val (i := 2) (v := .pointer (some ⟨w.heap.size, 1, none⟩)) rfl rfl (by rfl) (by intro x hx; go_simp; (first | done | exact rfl)) ?_
      simp only [List.set_cons_succ, List.set_cons_zero]
      refine lin_store (i := 3) (St w [⟨w.heap.size, [some (.int .u64 (tn (x0.lo))), some (.int .u64 (tn (x1.hi)))], 24⟩, ⟨w.heap.size + 1, [some (.int .u64 (tn (x1.lo))), some (.int .u64 (tn (x1.hi)))], 24⟩, ⟨w.heap.size + 2, [some (.int .u64 0), some (.int .u64 0)], 24⟩]) rfl rfl (by rfl) (fun x => (x.setCell ⟨w.heap.size, 1, none⟩ (.int .u64 (tn (x1.hi))))) (by intro x hx; obtain ⟨u0, z0⟩ := hx.has 0 1 rfl (by simp); have q0 := hx.soft 0 1 rfl; go_simp; (first | done | rfl)) (fun x hx => (hx.put 0 1 (.int .u64 (tn (x1.hi))) rfl)) ?_
      refine lin_done ?_
      intro W3 hx
      replace HS := hid hx
      clear hx
      -- region 5
      go_upto_region 5 with fail
      refine lin_begin (St w [⟨w.heap.size, [some (.int .u64 (tn (x0.lo))), some (.int .u64 (tn (x1.hi)))], 24⟩, ⟨w.heap.size + 1, [some (.int .u64 (tn (x1.lo))), some (.int .u64 (tn (x1.hi)))], 24⟩, ⟨w.heap.size + 2, [some (.int .u64 0), some (.int .u64 0)], 24⟩]) rfl HS.out ?_
      refine lin_val (i := 0) (v := .agg #[.int .u64 (tn (x0.lo)), .int .u64 (tn (x1.hi))]) rfl rfl (by rfl) (by intro x hx; have f0 := hx.load 0 0 rfl rfl; have f1 := hx.load 0 1 rfl rfl; go_simp; (first | done | exact rfl)) ?_
      simp only [List.set_cons_succ, List.set_cons_zero]
      refine lin_store (i := 1) (St w [⟨w.heap.size, [some (.int .u64 (tn (x0.lo))), some (.int .u64 (tn (x1.hi)))], 24⟩, ⟨w.heap.size + 1, [some (.int .u64 (tn (x1.lo))), some (.int .u64 (tn (x1.hi)))], 24⟩, ⟨w.heap.size + 2, [some (.int .u64 (tn (x0.lo))), some (.int .u64 (tn (x1.hi)))], 24⟩]) rfl rfl (by rfl) (fun x => ((x.setCell ⟨w.heap.size + 2, 0, none⟩ (.int .u64 (tn (x0.lo)))).setCell ⟨w.heap.size + 2, 1, none⟩ (.int .u64 (tn (x1.hi))))) (by intro x hx; obtain ⟨u0, z0⟩ := hx.has 2 0 rfl (by simp); have q0 := hx.soft 2 0 rfl; obtain ⟨u1, z1⟩ := hx.has 2 1 rfl (by simp); have q1 := hx.soft 2 1 rfl; go_simp; (first | done | rfl)) (fun x hx => ((hx.put 2 0 (.int .u64 (tn (x0.lo))) rfl).put 2 1 (.int .u64 (tn (x1.hi))) rfl)) ?_
      refine lin_done ?_
      intro W4 hx
      replace HS := hid hx
      clear hx
      go_wp2
      have r0 := HS.out.load 2 0 rfl rfl
      have r1 := HS.out.load 2 1 rfl rfl
      have HF : ref_Join x0 x1 = P.mk x0.lo x1.hi := by
        unfold ref_Join
        rw [cond_f h1.out, cond_t h2.out]
      exact bodyPost_ret (v := .agg #[.int .u64 (tn (x0.lo)), .int .u64 (tn (x1.hi))]) (by simp [results, Try.results24, go_sem, r0, r1]) rfl ⟨(by first | (rw [HF]; done) | (rw [HF]; rfl)), HS.out.below⟩
  · replace h1 := hid h1
    -- region 2
    go_upto_region 2 with fail
    refine lin_begin (St w [⟨w.heap.size, [some (.int .u64 (tn (x0.lo))), some (.int .u64 (tn (x0.hi)))], 24⟩, ⟨w.heap.size + 1, [some (.int .u64 (tn (x1.lo))), some (.int .u64 (tn (x1.hi)))], 24⟩, ⟨w.heap.size + 2, [some (.int .u64 0), some (.int .u64 0)], 24⟩]) rfl HS.out ?_
    refine lin_val (i := 0) (v := .pointer (some ⟨w.heap.size + 1, 0, none⟩)) rfl rfl (by rfl) (by intro x hx; go_simp; (first | done | exact rfl)) ?_
    simp only [List.set_cons_succ, List.set_cons_zero]
    refine lin_val (i := 1) (v := .int .u64 (tn (x1.lo))) rfl rfl (by rfl) (by intro x hx; have f0 := hx.load 1 0 rfl rfl; go_simp; (first | done | exact rfl)) ?_
    simp only [List.set_cons_succ, List.set_cons_zero]
    refine lin_val (i := 2) (v := .pointer (some ⟨w.heap.size, 0, none⟩)) rfl rfl (by rfl) (by intro x hx; go_simp; (first | done | exact rfl)) ?_
    simp only [List.set_cons_succ, List.set_cons_zero]
    refine lin_store (i := 3) (St w [⟨w.heap.size, [some (.int .u64 (tn (x1.lo))), some (.int .u64 (tn (x0.hi)))], 24⟩, ⟨w.heap.size + 1, [some (.int .u64 (tn (x1.lo))), some (.int .u64 (tn (x1.hi)))], 24⟩, ⟨w.heap.size + 2, [some (.int .u64 0), some (.int .u64 0)], 24⟩]) rfl rfl (by rfl) (fun x => (x.setCell ⟨w.heap.size, 0, none⟩ (.int .u64 (tn (x1.lo))))) (by intro x hx; obtain ⟨u0, z0⟩ := hx.has 0 0 rfl (by simp); have q0 := hx.soft 0 0 rfl; go_simp; (first | done | rfl)) (fun x hx => (hx.put 0 0 (.int .u64 (tn (x1.lo))) rfl)) ?_
    refine lin_done ?_
    intro W2 hx
    replace HS := hid hx
    clear hx
    -- region 3
    go_upto_region 3 with fail
    refine lin_begin (St w [⟨w.heap.size, [some (.int .u64 (tn (x1.lo))), some (.int .u64 (tn (x0.hi)))], 24⟩, ⟨w.heap.size + 1, [some (.int .u64 (tn (x1.lo))), some (.int .u64 (tn (x1.hi)))], 24⟩, ⟨w.heap.size + 2, [some (.int .u64 0), some (.int .u64 0)], 24⟩]) rfl HS.out ?_
    refine lin_val (i := 0) (v := .pointer (some ⟨w.heap.size + 1, 1, none⟩)) rfl rfl (by rfl) (by intro x hx; go_simp; (first | done | exact rfl)) ?_
    simp only [List.set_cons_succ, List.set_cons_zero]
    refine lin_val (i := 1) (v := .int .u64 (tn (x1.hi))) rfl rfl (by rfl) (by intro x hx; have f0 := hx.load 1 1 rfl rfl; go_simp; (first | done | exact rfl)) ?_
    simp only [List.set_cons_succ, List.set_cons_zero]
    refine lin_val (i := 2) (v := .pointer (some ⟨w.heap.size, 1, none⟩)) rfl rfl (by rfl) (by intro x hx; go_simp; (first | done | exact rfl)) ?_
    simp only [List.set_cons_succ, List.set_cons_zero]
    refine lin_val (i := 3) (v := .int .u64 (tn (x0.hi))) rfl rfl (by rfl) (by intro x hx; have f0 := hx.load 0 1 rfl rfl; go_simp; (first | done | exact rfl)) ?_
    simp only [List.set_cons_succ, List.set_cons_zero]
    refine lin_val (i := 4) (v := .bool (gtU x1.hi x0.hi)) rfl rfl (by rfl) (by intro x hx; go_simp; (first | done | exact gtUT x1.hi x0.hi | exact congrArg _ (gtUT x1.hi x0.hi) | (rw [gtUT x1.hi x0.hi]; done) | (rw [gtUT x1.hi x0.hi]; rfl))) ?_
    simp only [List.set_cons_succ, List.set_cons_zero]
    refine lin_done ?_
    intro W3 hx
    replace HS := hid hx
    clear hx
    cases h2 : (gtU x1.hi x0.hi)
    · replace h2 := hid h2
      -- region 5
      go_upto_region 5 with fail
      refine lin_begin (St w [⟨w.heap.size, [some (.int .u64 (tn (x1.lo))), some (.int .u64 (tn (x0.hi)))], 24⟩, ⟨w.heap.size + 1, [some (.int .u64 (tn (x1.lo))), some (.int .u64 (tn (x1.hi)))], 24⟩, ⟨w.heap.size + 2, [some (.int .u64 0), some (.int .u64 0)], 24⟩]) rfl HS.out ?_
      refine lin_val (i := 0) (v := .agg #[.int .u64 (tn (x1.lo)), .int .u64 (tn (x0.hi))]) rfl rfl (by rfl) (by intro x hx; have f0 := hx.load 0 0 rfl rfl; have f1 := hx.load 0 1 rfl rfl; go_simp; (first | done | exact rfl)) ?_
      simp only [List.set_cons_succ, List.set_cons_zero]
      refine lin_store (i := 1) (St w [⟨w.heap.size, [some (.int .u64 (tn (x1.lo))), some (.int .u64 (tn (x0.hi)))], 24⟩, ⟨w.heap.size + 1, [some (.int .u64 (tn (x1.lo))), some (.int .u64 (tn (x1.hi)))], 24⟩, ⟨w.heap.size + 2, [some (.int .u64 (tn (x1.lo))), some (.int .u64 (tn (x0.hi)))], 24⟩]) rfl rfl (by rfl) (fun x => ((x.setCell ⟨w.heap.size + 2, 0, none⟩ (.int .u64 (tn (x1.lo)))).setCell ⟨w.heap.size + 2, 1, none⟩ (.int .u64 (tn (x0.hi))))) (by intro x hx; obtain ⟨u0, z0⟩ := hx.has 2 0 rfl (by simp); have q0 := hx.soft 2 0 rfl; obtain ⟨u1, z1⟩ := hx.has 2 1 rfl (by simp); have q1 := hx.soft 2 1 rfl; go_simp; (first | done | rfl)) (fun x hx => ((hx.put 2 0 (.int .u64 (tn (x1.lo))) rfl).put 2 1 (.int .u64 (tn (x0.hi))) rfl)) ?_
      refine lin_done ?_
      intro W4 hx
      replace HS := hid hx
      clear hx
      go_wp2
      have r0 := HS.out.load 2 0 rfl rfl
      have r1 := HS.out.load 2 1 rfl rfl
      have HF : ref_Join x0 x1 = P.mk x1.lo x0.hi := by
        unfold ref_Join
        rw [cond_t h1.out, cond_f h2.out]
      exact bodyPost_ret (v := .agg #[.int .u64 (tn (x1.lo)), .int .u64 (tn (x0.hi))]) (by simp [results, Try.results24, go_sem, r0, r1]) rfl ⟨(by first | (rw [HF]; done) | (rw [HF]; rfl)), HS.out.below⟩
    · replace h2 := hid h2
      -- region 4
      go_upto_region 4 with fail
      refine lin_begin (St w [⟨w.heap.size, [some (.int .u64 (tn (x1.lo))), some (.int .u64 (tn (x0.hi)))], 24⟩, ⟨w.heap.size + 1, [some (.int .u64 (tn (x1.lo))), some (.int .u64 (tn (x1.hi)))], 24⟩, ⟨w.heap.size + 2, [some (.int .u64 0), some (.int .u64 0)], 24⟩]) rfl HS.out ?_
      refine lin_val (i := 0) (v := .pointer (some ⟨w.heap.size + 1, 1, none⟩)) rfl rfl (by rfl) (by intro x hx; go_simp; (first | done | exact rfl)) ?_
      simp only [List.set_cons_succ, List.set_cons_zero]
      refine lin_val (i := 1) (v := .int .u64 (tn (x1.hi))) rfl rfl (by rfl) (by intro x hx; have f0 := hx.load 1 1 rfl rfl; go_simp; (first | done | exact rfl)) ?_
      simp only [List.set_cons_succ, List.set_cons_zero]
      refine lin_val (i := 2) (v := .pointer (some ⟨w.heap.size, 1, none⟩)) rfl rfl (by rfl) (by intro x hx; go_simp; (first | done | exact rfl)) ?_
      simp only [List.set_cons_succ, List.set_cons_zero]
      refine lin_store (i := 3) (St w [⟨w.heap.size, [some (.int .u64 (tn (x1.lo))), some (.int .u64 (tn (x1.hi)))], 24⟩, ⟨w.heap.size + 1, [some (.int .u64 (tn (x1.lo))), some (.int .u64 (tn (x1.hi)))], 24⟩, ⟨w.heap.size + 2, [some (.int .u64 0), some (.int .u64 0)], 24⟩]) rfl rfl (by rfl) (fun x => (x.setCell ⟨w.heap.size, 1, none⟩ (.int .u64 (tn (x1.hi))))) (by intro x hx; obtain ⟨u0, z0⟩ := hx.has 0 1 rfl (by simp); have q0 := hx.soft 0 1 rfl; go_simp; (first | done | rfl)) (fun x hx => (hx.put 0 1 (.int .u64 (tn (x1.hi))) rfl)) ?_
      refine lin_done ?_
      intro W4 hx
      replace HS := hid hx
      clear hx
      -- region 5
      go_upto_region 5 with fail
      refine lin_begin (St w [⟨w.heap.size, [some (.int .u64 (tn (x1.lo))), some (.int .u64 (tn (x1.hi)))], 24⟩, ⟨w.heap.size + 1, [some (.int .u64 (tn (x1.lo))), some (.int .u64 (tn (x1.hi)))], 24⟩, ⟨w.heap.size + 2, [some (.int .u64 0), some (.int .u64 0)], 24⟩]) rfl HS.out ?_
      refine lin_val (i := 0) (v := .agg #[.int .u64 (tn (x1.lo)), .int .u64 (tn (x1.hi))]) rfl rfl (by rfl) (by intro x hx; have f0 := hx.load 0 0 rfl rfl; have f1 := hx.load 0 1 rfl rfl; go_simp; (first | done | exact rfl)) ?_
      simp only [List.set_cons_succ, List.set_cons_zero]
      refine lin_store (i := 1) (St w [⟨w.heap.size, [some (.int .u64 (tn (x1.lo))), some (.int .u64 (tn (x1.hi)))], 24⟩, ⟨w.heap.size + 1, [some (.int .u64 (tn (x1.lo))), some (.int .u64 (tn (x1.hi)))], 24⟩, ⟨w.heap.size + 2, [some (.int .u64 (tn (x1.lo))), some (.int .u64 (tn (x1.hi)))], 24⟩]) rfl rfl (by rfl) (fun x => ((x.setCell ⟨w.heap.size + 2, 0, none⟩ (.int .u64 (tn (x1.lo)))).setCell ⟨w.heap.size + 2, 1, none⟩ (.int .u64 (tn (x1.hi))))) (by intro x hx; obtain ⟨u0, z0⟩ := hx.has 2 0 rfl (by simp); have q0 := hx.soft 2 0 rfl; obtain ⟨u1, z1⟩ := hx.has 2 1 rfl (by simp); have q1 := hx.soft 2 1 rfl; go_simp; (first | done | rfl)) (fun x hx => ((hx.put 2 0 (.int .u64 (tn (x1.lo))) rfl).put 2 1 (.int .u64 (tn (x1.hi))) rfl)) ?_
      refine lin_done ?_
      intro W5 hx
      replace HS := hid hx
      clear hx
      go_wp2
      have r0 := HS.out.load 2 0 rfl rfl
      have r1 := HS.out.load 2 1 rfl rfl
      have HF : ref_Join x0 x1 = x1 := by
        unfold ref_Join
        rw [cond_t h1.out, cond_t h2.out]
      exact bodyPost_ret (v := .agg #[.int .u64 (tn (x1.lo)), .int .u64 (tn (x1.hi))]) (by simp [results, Try.results24, go_sem, r0, r1]) rfl ⟨(by first | (rw [HF]; done) | (rw [HF]; rfl)), HS.out.below⟩
def ref_Sjoin (x0 : P) (x1 : P) : P :=
  bif ltI x1.lo x0.lo then (bif gtI x1.hi x0.hi then (x1) else (P.mk x1.lo x0.hi)) else (bif gtI x1.hi x0.hi then (P.mk x0.lo x1.hi) else (x0))
set_option maxRecDepth 100000 in
set_option maxHeartbeats 1000000 in
theorem ref_Sjoin_any (x0 : P) (x1 : P)  (w : World) :
    Calls Try.prog 59 #[.agg #[.int .i64 (ti (x0.lo)), .int .i64 (ti (x0.hi))], .agg #[.int .i64 (ti (x1.lo)), .int .i64 (ti (x1.hi))]] w fun e w' => e = .returned (.agg #[.int .i64 (ti ((ref_Sjoin x0 x1).lo)), .int .i64 (ti ((ref_Sjoin x0 x1).hi))]) ∧ Below w.heap.size w w' := by
  go_enter Try.func59, Try.ntmps59
  have HS := hid ((((st_nil w).alloc (k := w.heap.size) rfl [.int .i64 (ti (x0.lo)), .int .i64 (ti (x0.hi))] 38).alloc (k := w.heap.size + 1) (by simp) [.int .i64 (ti (x1.lo)), .int .i64 (ti (x1.hi))] 38).alloc (k := w.heap.size + 2) (by simp) [.int .i64 0, .int .i64 0] 38)
  -- region 1
  go_upto_region 1 with fail
  refine lin_begin (St w [⟨w.heap.size, [some (.int .i64 (ti (x0.lo))), some (.int .i64 (ti (x0.hi)))], 38⟩, ⟨w.heap.size + 1, [some (.int .i64 (ti (x1.lo))), some (.int .i64 (ti (x1.hi)))], 38⟩, ⟨w.heap.size + 2, [some (.int .i64 0), some (.int .i64 0)], 38⟩]) rfl HS.out ?_
  refine lin_val (i := 0) (v := .pointer (some ⟨w.heap.size + 1, 0, none⟩)) rfl rfl (by rfl) (by intro x hx; go_simp; (first | done | exact rfl)) ?_
  simp only [List.set_cons_succ, List.set_cons_zero]
  refine lin_val (i := 1) (v := .int .i64 (ti (x1.lo))) rfl rfl (by rfl) (by intro x hx; have f0 := hx.load 1 0 rfl rfl; go_simp; (first | done | exact rfl)) ?_
  simp only [List.set_cons_succ, List.set_cons_zero]
  refine lin_val (i := 2) (v := .pointer (some ⟨w.heap.size, 0, none⟩)) rfl rfl (by rfl) (by intro x hx; go_simp; (first | done | exact rfl)) ?_
  simp only [List.set_cons_succ, List.set_cons_zero]
  refine lin_val (i := 3) (v := .int .i64 (ti (x0.lo))) rfl rfl (by rfl) (by intro x hx; have f0 := hx.load 0 0 rfl rfl; go_simp; (first | done | exact rfl)) ?_
  simp only [List.set_cons_succ, List.set_cons_zero]
  refine lin_val (i := 4) (v := .bool (ltI x1.lo x0.lo)) rfl rfl (by rfl) (by intro x hx; go_simp; (first | done | exact ltIT x1.lo x0.lo | exact congrArg _ (ltIT x1.lo x0.lo) | (rw [ltIT x1.lo x0.lo]; done) | (rw [ltIT x1.lo x0.lo]; rfl))) ?_
  simp only [List.set_cons_succ, List.set_cons_zero]
  refine lin_done ?_
  intro W1 hx
  replace HS := hid hx
  clear hx
  cases h1 : (ltI x1.lo x0.lo)
  · replace h1 := hid h1
    -- region 3
    go_upto_region 3 with fail
    refine lin_begin (St w [⟨w.heap.size, [some (.int .i64 (ti (x0.lo))), some (.int .i64 (ti (x0.hi)))], 38⟩, ⟨w.heap.size + 1, [some (.int .i64 (ti (x1.lo))), some (.int .i64 (ti (x1.hi)))], 38⟩, ⟨w.heap.size + 2, [some (.int .i64 0), some (.int .i64 0)], 38⟩]) rfl HS.out ?_
    refine lin_val (i := 0) (v := .pointer (some ⟨w.heap.size + 1, 1, none⟩)) rfl rfl (by rfl) (by intro x hx; go_simp; (first | done | exact rfl)) ?_
    simp only [List.set_cons_succ, List.set_cons_zero]
    refine lin_val (i := 1) (v := .int .i64 (ti (x1.hi))) rfl rfl (by rfl) (by intro x hx; have f0 := hx.load 1 1 rfl rfl; go_simp; (first | done | exact rfl)) ?_
    simp only [List.set_cons_succ, List.set_cons_zero]
    refine lin_val (i := 2) (v := .pointer (some ⟨w.heap.size, 1, none⟩)) rfl rfl (by rfl) (by intro x hx; go_simp; (first | done | exact rfl)) ?_
    simp only [List.set_cons_succ, List.set_cons_zero]
    refine lin_val (i := 3) (v := .int .i64 (ti (x0.hi))) rfl rfl (by rfl) (by intro x hx; have f0 := hx.load 0 1 rfl rfl; go_simp; (first | done | exact rfl)) ?_
    simp only [List.set_cons_succ, List.set_cons_zero]
    refine lin_val (i := 4) (v := .bool (gtI x1.hi x0.hi)) rfl rfl (by rfl) (by intro x hx; go_simp; (first | done | exact gtIT x1.hi x0.hi | exact congrArg _ (gtIT x1.hi x0.hi) | (rw [gtIT x1.hi x0.hi]; done) | (rw [gtIT x1.hi x0.hi]; rfl))) ?_
    simp only [List.set_cons_succ, List.set_cons_zero]
    refine lin_done ?_
    intro W2 hx
    replace HS := hid hx
    clear hx
    cases h2 : (gtI x1.hi x0.hi)
    · replace h2 := hid h2
      -- region 5
      go_upto_region 5 with fail
      refine lin_begin (St w [⟨w.heap.size, [some (.int .i64 (ti (x0.lo))), some (.int .i64 (ti (x0.hi)))], 38⟩, ⟨w.heap.size + 1, [some (.int .i64 (ti (x1.lo))), some (.int .i64 (ti (x1.hi)))], 38⟩, ⟨w.heap.size + 2, [some (.int .i64 0), some (.int .i64 0)], 38⟩]) rfl HS.out ?_
      refine lin_val (i := 0) (v := .agg #[.int .i64 (ti (x0.lo)), .int .i64 (ti (x0.hi))]) rfl rfl (by rfl) (by intro x hx; have f0 := hx.load 0 0 rfl rfl; have f1 := hx.load 0 1 rfl rfl; go_simp; (first | done | exact rfl)) ?_
      simp only [List.set_cons_succ, List.set_cons_zero]
      refine lin_store (i := 1) (St w [⟨w.heap.size, [some (.int .i64 (ti (x0.lo))), some (.int .i64 (ti (x0.hi)))], 38⟩, ⟨w.heap.size + 1, [some (.int .i64 (ti (x1.lo))), some (.int .i64 (ti (x1.hi)))], 38⟩, ⟨w.heap.size + 2, [some (.int .i64 (ti (x0.lo))), some (.int .i64 (ti (x0.hi)))], 38⟩]) rfl rfl (by rfl) (fun x => ((x.setCell ⟨w.heap.size + 2, 0, none⟩ (.int .i64 (ti (x0.lo)))).setCell ⟨w.heap.size + 2, 1, none⟩ (.int .i64 (ti (x0.hi))))) (by intro x hx; obtain ⟨u0, z0⟩ := hx.has 2 0 rfl (by simp); have q0 := hx.soft 2 0 rfl; obtain ⟨u1, z1⟩ := hx.has 2 1 rfl (by simp); have q1 := hx.soft 2 1 rfl; go_simp; (first | done | rfl)) (fun x hx => ((hx.put 2 0 (.int .i64 (ti (x0.lo))) rfl).put 2 1 (.int .i64 (ti (x0.hi))) rfl)) ?_
      refine lin_done ?_
      intro W3 hx
      replace HS := hid hx
      clear hx
      go_wp2
      have r0 := HS.out.load 2 0 rfl rfl
      have r1 := HS.out.load 2 1 rfl rfl
      have HF : ref_Sjoin x0 x1 = x0 := by
        unfold ref_Sjoin
        rw [cond_f h1.out, cond_f h2.out]
      exact bodyPost_ret (v := .agg #[.int .i64 (ti (x0.lo)), .int .i64 (ti (x0.hi))]) (by simp [results, Try.results59, go_sem, r0, r1]) rfl ⟨(by first | (rw [HF]; done) | (rw [HF]; rfl)), HS.out.below⟩
    · replace h2 := hid h2
      -- region 4
      go_upto_region 4 with fail
      refine lin_begin (St w [⟨w.heap.size, [some (.int .i64 (ti (x0.lo))), some (.int .i64 (ti (x0.hi)))], 38⟩, ⟨w.heap.size + 1, [some (.int .i64 (ti (x1.lo))), some (.int .i64 (ti (x1.hi)))], 38⟩, ⟨w.heap.size + 2, [some (.int .i64 0), some (.int .i64 0)], 38⟩]) rfl HS.out ?_
      refine lin_val (i := 0) (v := .pointer (some ⟨w.heap.size + 1, 1, none⟩)) rfl rfl (by rfl) (by intro x hx; go_simp; (first | done | exact rfl)) ?_
      simp only [List.set_cons_succ, List.set_cons_zero]
      refine lin_val (i := 1) (v := .int .i64 (ti (x1.hi))) rfl rfl (by rfl) (by intro x hx; have f0 := hx.load 1 1 rfl rfl; go_simp; (first | done | exact rfl)) ?_
      simp only [List.set_cons_succ, List.set_cons_zero]
      refine lin_val (i := 2) (v := .pointer (some ⟨w.heap.size, 1, none⟩)) rfl rfl (by rfl) (by intro x hx; go_simp; (first | done | exact rfl)) ?_
      simp only [List.set_cons_succ, List.set_cons_zero]
      refine lin_store (i := 3) (St w [⟨w.heap.size, [some (.int .i64 (ti (x0.lo))), some (.int .i64 (ti (x1.hi)))], 38⟩, ⟨w.heap.size + 1, [some (.int .i64 (ti (x1.lo))), some (.int .i64 (ti (x1.hi)))], 38⟩, ⟨w.heap.size + 2, [some (.int .i64 0), some (.int .i64 0)], 38⟩]) rfl rfl (by rfl) (fun x => (x.setCell ⟨w.heap.size, 1, none⟩ (.int .i64 (ti (x1.hi))))) (by intro x hx; obtain ⟨u0, z0⟩ := hx.has 0 1 rfl (by simp); have q0 := hx.soft 0 1 rfl; go_simp; (first | done | rfl)) (fun x hx => (hx.put 0 1 (.int .i64 (ti (x1.hi))) rfl)) ?_
      refine lin_done ?_
      intro W3 hx
      replace HS := hid hx
      clear hx
      -- region 5
      go_upto_region 5 with fail
      refine lin_begin (St w [⟨w.heap.size, [some (.int .i64 (ti (x0.lo))), some (.int .i64 (ti (x1.hi)))], 38⟩, ⟨w.heap.size + 1, [some (.int .i64 (ti (x1.lo))), some (.int .i64 (ti (x1.hi)))], 38⟩, ⟨w.heap.size + 2, [some (.int .i64 0), some (.int .i64 0)], 38⟩]) rfl HS.out ?_
      refine lin_val (i := 0) (v := .agg #[.int .i64 (ti (x0.lo)), .int .i64 (ti (x1.hi))]) rfl rfl (by rfl) (by intro x hx; have f0 := hx.load 0 0 rfl rfl; have f1 := hx.load 0 1 rfl rfl; go_simp; (first | done | exact rfl)) ?_
      simp only [List.set_cons_succ, List.set_cons_zero]
      refine lin_store (i := 1) (St w [⟨w.heap.size, [some (.int .i64 (ti (x0.lo))), some (.int .i64 (ti (x1.hi)))], 38⟩, ⟨w.heap.size + 1, [some (.int .i64 (ti (x1.lo))), some (.int .i64 (ti (x1.hi)))], 38⟩, ⟨w.heap.size + 2, [some (.int .i64 (ti (x0.lo))), some (.int .i64 (ti (x1.hi)))], 38⟩]) rfl rfl (by rfl) (fun x => ((x.setCell ⟨w.heap.size + 2, 0, none⟩ (.int .i64 (ti (x0.lo)))).setCell ⟨w.heap.size + 2, 1, none⟩ (.int .i64 (ti (x1.hi))))) (by intro x hx; obtain ⟨u0, z0⟩ := hx.has 2 0 rfl (by simp); have q0 := hx.soft 2 0 rfl; obtain ⟨u1, z1⟩ := hx.has 2 1 rfl (by simp); have q1 := hx.soft 2 1 rfl; go_simp; (first | done | rfl)) (fun x hx => ((hx.put 2 0 (.int .i64 (ti (x0.lo))) rfl).put 2 1 (.int .i64 (ti (x1.hi))) rfl)) ?_
      refine lin_done ?_
      intro W4 hx
      replace HS := hid hx
      clear hx
      go_wp2
      have r0 := HS.out.load 2 0 rfl rfl
      have r1 := HS.out.load 2 1 rfl rfl
      have HF : ref_Sjoin x0 x1 = P.mk x0.lo x1.hi := by
        unfold ref_Sjoin
        rw [cond_f h1.out, cond_t h2.out]
      exact bodyPost_ret (v := .agg #[.int .i64 (ti (x0.lo)), .int .i64 (ti (x1.hi))]) (by simp [results, Try.results59, go_sem, r0, r1]) rfl ⟨(by first | (rw [HF]; done) | (rw [HF]; rfl)), HS.out.below⟩
  · replace h1 := hid h1
    -- region 2
    go_upto_region 2 with fail
    refine lin_begin (St w [⟨w.heap.size, [some (.int .i64 (ti (x0.lo))), some (.int .i64 (ti (x0.hi)))], 38⟩, ⟨w.heap.size + 1, [some (.int .i64 (ti (x1.lo))), some (.int .i64 (ti (x1.hi)))], 38⟩, ⟨w.heap.size + 2, [some (.int .i64 0), some (.int .i64 0)], 38⟩]) rfl HS.out ?_
    refine lin_val (i := 0) (v := .pointer (some ⟨w.heap.size + 1, 0, none⟩)) rfl rfl (by rfl) (by intro x hx; go_simp; (first | done | exact rfl)) ?_
    simp only [List.set_cons_succ, List.set_cons_zero]
    refine lin_val (i := 1) (v := .int .i64 (ti (x1.lo))) rfl rfl (by rfl) (by intro x hx; have f0 := hx.load 1 0 rfl rfl; go_simp; (first | done | exact rfl)) ?_
    simp only [List.set_cons_succ, List.set_cons_zero]
    refine lin_val (i := 2) (v := .pointer (some ⟨w.heap.size, 0, none⟩)) rfl rfl (by rfl) (by intro x hx; go_simp; (first | done | exact rfl)) ?_
    simp only [List.set_cons_succ, List.set_cons_zero]
    refine lin_store (i := 3) (St w [⟨w.heap.size, [some (.int .i64 (ti (x1.lo))), some (.int .i64 (ti (x0.hi)))], 38⟩, ⟨w.heap.size + 1, [some (.int .i64 (ti (x1.lo))), some (.int .i64 (ti (x1.hi)))], 38⟩, ⟨w.heap.size + 2, [some (.int .i64 0), some (.int .i64 0)], 38⟩]) rfl rfl (by rfl) (fun x => (x.setCell ⟨w.heap.size, 0, none⟩ (.int .i64 (ti (x1.lo))))) (by intro x hx; obtain ⟨u0, z0⟩ := hx.has 0 0 rfl (by simp); have q0 := hx.soft 0 0 rfl; go_simp; (first | done | rfl)) (fun x hx => (hx.put 0 0 (.int .i64 (ti (x1.lo))) rfl)) ?_
    refine lin_done ?_
    intro W2 hx
    replace HS := hid hx
    clear hx
    -- region 3
    go_upto_region 3 with fail
    refine lin_begin (St w [⟨w.heap.size, [some (.int .i64 (ti (x1.lo))), some (.int .i64 (ti (x0.hi)))], 38⟩, ⟨w.heap.size + 1, [some (.int .i64 (ti (x1.lo))), some (.int .i64 (ti (x1.hi)))], 38⟩, ⟨w.heap.size + 2, [some (.int .i64 0), some (.int .i64 0)], 38⟩]) rfl HS.out ?_
    refine lin_val (i := 0) (v := .pointer (some ⟨w.heap.size + 1, 1, none⟩)) rfl rfl (by rfl) (by intro x hx; go_simp; (first | done | exact rfl)) ?_
    simp only [List.set_cons_succ, List.set_cons_zero]
    refine lin_val (i := 1) (v := .int .i64 (ti (x1.hi))) rfl rfl (by rfl) (by intro x hx; have f0 := hx.load 1 1 rfl rfl; go_simp; (first | done | exact rfl)) ?_
    simp only [List.set_cons_succ, List.set_cons_zero]
    refine lin_val (i := 2) (v := .pointer (some ⟨w.heap.size, 1, none⟩)) rfl rfl (by rfl) (by intro x hx; go_simp; (first | done | exact rfl)) ?_
    simp only [List.set_cons_succ, List.set_cons_zero]
    refine lin_val (i := 3) (v := .int .i64 (ti (x0.hi))) rfl rfl (by rfl) (by intro x hx; have f0 := hx.load 0 1 rfl rfl; go_simp; (first | done | exact rfl)) ?_
    simp only [List.set_cons_succ, List.set_cons_zero]
    refine lin_val (i := 4) (v := .bool (gtI x1.hi x0.hi)) rfl rfl (by rfl) (by intro x hx; go_simp; (first | done | exact gtIT x1.hi x0.hi | exact congrArg _ (gtIT x1.hi x0.hi) | (rw [gtIT x1.hi x0.hi]; done) | (rw [gtIT x1.hi x0.hi]; rfl))) ?_
    simp only [List.set_cons_succ, List.set_cons_zero]
    refine lin_done ?_
    intro W3 hx
    replace HS := hid hx
    clear hx
    cases h2 : (gtI x1.hi x0.hi)
    · replace h2 := hid h2
      -- region 5
      go_upto_region 5 with fail
      refine lin_begin (St w [⟨w.heap.size, [some (.int .i64 (ti (x1.lo))), some (.int .i64 (ti (x0.hi)))], 38⟩, ⟨w.heap.size + 1, [some (.int .i64 (ti (x1.lo))), some (.int .i64 (ti (x1.hi)))], 38⟩, ⟨w.heap.size + 2, [some (.int .i64 0), some (.int .i64 0)], 38⟩]) rfl HS.out ?_
      refine lin_val (i := 0) (v := .agg #[.int .i64 (ti (x1.lo)), .int .i64 (ti (x0.hi))]) rfl rfl (by rfl) (by intro x hx; have f0 := hx.load 0 0 rfl rfl; have f1 := hx.load 0 1 rfl rfl; go_simp; (first | done | exact rfl)) ?_
      simp only [List.set_cons_succ, List.set_cons_zero]
      refine lin_store (i := 1) (St w [⟨w.heap.size, [some (.int .i64 (ti (x1.lo))), some (.int .i64 (ti (x0.hi)))], 38⟩, ⟨w.heap.size + 1, [some (.int .i64 (ti (x1.lo))), some (.int .i64 (ti (x1.hi)))], 38⟩, ⟨w.heap.size + 2, [some (.int .i64 (ti (x1.lo))), some (.int .i64 (ti (x0.hi)))], 38⟩]) rfl rfl (by rfl) (fun x => ((x.setCell ⟨w.heap.size + 2, 0, none⟩ (.int .i64 (ti (x1.lo)))).setCell ⟨w.heap.size + 2, 1, none⟩ (.int .i64 (ti (x0.hi))))) (by intro x hx; obtain ⟨u0, z0⟩ := hx.has 2 0 rfl (by simp); have q0 := hx.soft 2 0 rfl; obtain ⟨u1, z1⟩ := hx.has 2 1 rfl (by simp); have q1 := hx.soft 2 1 rfl; go_simp; (first | done | rfl)) (fun x hx => ((hx.put 2 0 (.int .i64 (ti (x1.lo))) rfl).put 2 1 (.int .i64 (ti (x0.hi))) rfl)) ?_
      refine lin_done ?_
      intro W4 hx
      replace HS := hid hx
      clear hx
      go_wp2
      have r0 := HS.out.load 2 0 rfl rfl
      have r1 := HS.out.load 2 1 rfl rfl
      have HF : ref_Sjoin x0 x1 = P.mk x1.lo x0.hi := by
        unfold ref_Sjoin
        rw [cond_t h1.out, cond_f h2.out]
      exact bodyPost_ret (v := .agg #[.int .i64 (ti (x1.lo)), .int .i64 (ti (x0.hi))]) (by simp [results, Try.results59, go_sem, r0, r1]) rfl ⟨(by first | (rw [HF]; done) | (rw [HF]; rfl)), HS.out.below⟩
    · replace h2 := hid h2
      -- region 4
      go_upto_region 4 with fail
      refine lin_begin (St w [⟨w.heap.size, [some (.int .i64 (ti (x1.lo))), some (.int .i64 (ti (x0.hi)))], 38⟩, ⟨w.heap.size + 1, [some (.int .i64 (ti (x1.lo))), some (.int .i64 (ti (x1.hi)))], 38⟩, ⟨w.heap.size + 2, [some (.int .i64 0), some (.int .i64 0)], 38⟩]) rfl HS.out ?_
      refine lin_val (i := 0) (v := .pointer (some ⟨w.heap.size + 1, 1, none⟩)) rfl rfl (by rfl) (by intro x hx; go_simp; (first | done | exact rfl)) ?_
      simp only [List.set_cons_succ, List.set_cons_zero]
      refine lin_val (i := 1) (v := .int .i64 (ti (x1.hi))) rfl rfl (by rfl) (by intro x hx; have f0 := hx.load 1 1 rfl rfl; go_simp; (first | done | exact rfl)) ?_
      simp only [List.set_cons_succ, List.set_cons_zero]
      refine lin_val (i := 2) (v := .pointer (some ⟨w.heap.size, 1, none⟩)) rfl rfl (by rfl) (by intro x hx; go_simp; (first | done | exact rfl)) ?_
      simp only [List.set_cons_succ, List.set_cons_zero]
      refine lin_store (i := 3) (St w [⟨w.heap.size, [some (.int .i64 (ti (x1.lo))), some (.int .i64 (ti (x1.hi)))], 38⟩, ⟨w.heap.size + 1, [some (.int .i64 (ti (x1.lo))), some (.int .i64 (ti (x1.hi)))], 38⟩, ⟨w.heap.size + 2, [some (.int .i64 0), some (.int .i64 0)], 38⟩]) rfl rfl (by rfl) (fun x => (x.setCell ⟨w.heap.size, 1, none⟩ (.int .i64 (ti (x1.hi))))) (by intro x hx; obtain ⟨u0, z0⟩ := hx.has 0 1 rfl (by simp); have q0 := hx.soft 0 1 rfl; go_simp; (first | done | rfl)) (fun x hx => (hx.put 0 1 (.int .i64 (ti (x1.hi))) rfl)) ?_
      refine lin_done ?_
      intro W4 hx
      replace HS := hid hx
      clear hx
      -- region 5
      go_upto_region 5 with fail
      refine lin_begin (St w [⟨w.heap.size, [some (.int .i64 (ti (x1.lo))), some (.int .i64 (ti (x1.hi)))], 38⟩, ⟨w.heap.size + 1, [some (.int .i64 (ti (x1.lo))), some (.int .i64 (ti (x1.hi)))], 38⟩, ⟨w.heap.size + 2, [some (.int .i64 0), some (.int .i64 0)], 38⟩]) rfl HS.out ?_
      refine lin_val (i := 0) (v := .agg #[.int .i64 (ti (x1.lo)), .int .i64 (ti (x1.hi))]) rfl rfl (by rfl) (by intro x hx; have f0 := hx.load 0 0 rfl rfl; have f1 := hx.load 0 1 rfl rfl; go_simp; (first | done | exact rfl)) ?_
      simp only [List.set_cons_succ, List.set_cons_zero]
      refine lin_store (i := 1) (St w [⟨w.heap.size, [some (.int .i64 (ti (x1.lo))), some (.int .i64 (ti (x1.hi)))], 38⟩, ⟨w.heap.size + 1, [some (.int .i64 (ti (x1.lo))), some (.int .i64 (ti (x1.hi)))], 38⟩, ⟨w.heap.size + 2, [some (.int .i64 (ti (x1.lo))), some (.int .i64 (ti (x1.hi)))], 38⟩]) rfl rfl (by rfl) (fun x => ((x.setCell ⟨w.heap.size + 2, 0, none⟩ (.int .i64 (ti (x1.lo)))).setCell ⟨w.heap.size + 2, 1, none⟩ (.int .i64 (ti (x1.hi))))) (by intro x hx; obtain ⟨u0, z0⟩ := hx.has 2 0 rfl (by simp); have q0 := hx.soft 2 0 rfl; obtain ⟨u1, z1⟩ := hx.has 2 1 rfl (by simp); have q1 := hx.soft 2 1 rfl; go_simp; (first | done | rfl)) (fun x hx => ((hx.put 2 0 (.int .i64 (ti (x1.lo))) rfl).put 2 1 (.int .i64 (ti (x1.hi))) rfl)) ?_
      refine lin_done ?_
      intro W5 hx
      replace HS := hid hx
      clear hx
      go_wp2
      have r0 := HS.out.load 2 0 rfl rfl
      have r1 := HS.out.load 2 1 rfl rfl
      have HF : ref_Sjoin x0 x1 = x1 := by
        unfold ref_Sjoin
        rw [cond_t h1.out, cond_t h2.out]
      exact bodyPost_ret (v := .agg #[.int .i64 (ti (x1.lo)), .int .i64 (ti (x1.hi))]) (by simp [results, Try.results59, go_sem, r0, r1]) rfl ⟨(by first | (rw [HF]; done) | (rw [HF]; rfl)), HS.out.below⟩
def ref_Meet (x0 : P) (x1 : P) : P × Bool :=
  bif gtU x1.lo x0.lo then (bif ltU x1.hi x0.hi then (bif gtU x1.lo x1.hi then ((P.mk 0#64 0#64, false)) else ((x1, true))) else (bif gtU x1.lo x0.hi then ((P.mk 0#64 0#64, false)) else ((P.mk x1.lo x0.hi, true)))) else (bif ltU x1.hi x0.hi then (bif gtU x0.lo x1.hi then ((P.mk 0#64 0#64, false)) else ((P.mk x0.lo x1.hi, true))) else (bif gtU x0.lo x0.hi then ((P.mk 0#64 0#64, false)) else ((x0, true))))
set_option maxRecDepth 100000 in
set_option maxHeartbeats 1000000 in
theorem ref_Meet_any (x0 : P) (x1 : P)  (w : World) :
    Calls Try.prog 14 #[.agg #[.int .u64 (tn (x0.lo)), .int .u64 (tn (x0.hi))], .agg #[.int .u64 (tn (x1.lo)), .int .u64 (tn (x1.hi))]] w fun e w' => e = .returned (.tuple #[.agg #[.int .u64 (tn (((ref_Meet x0 x1).1).lo)), .int .u64 (tn (((ref_Meet x0 x1).1).hi))], .bool ((ref_Meet x0 x1).2)]) ∧ Below w.heap.size w w' := by
  go_enter Try.func14, Try.ntmps14
  have HS := hid ((((st_nil w).alloc (k := w.heap.size) rfl [.int .u64 (tn (x0.lo)), .int .u64 (tn (x0.hi))] 24).alloc (k := w.heap.size + 1) (by simp) [.int .u64 (tn (x1.lo)), .int .u64 (tn (x1.hi))] 24).alloc (k := w.heap.size + 2) (by simp) [.int .u64 0, .int .u64 0] 24)
  -- region 1
  go_upto_region 1 with fail
  refine lin_begin (St w [⟨w.heap.size, [some (.int .u64 (tn (x0.lo))), some (.int .u64 (tn (x0.hi)))], 24⟩, ⟨w.heap.size + 1, [some (.int .u64 (tn (x1.lo))), some (.int .u64 (tn (x1.hi)))], 24⟩, ⟨w.heap.size + 2, [some (.int .u64 0), some (.int .u64 0)], 24⟩]) rfl HS.out ?_
  refine lin_val (i := 0) (v := .pointer (some ⟨w.heap.size + 1, 0, none⟩)) rfl rfl (by rfl) (by intro x hx; go_simp; (first | done | exact rfl)) ?_
  simp only [List.set_cons_succ, List.set_cons_zero]
  refine lin_val (i := 1) (v := .int .u64 (tn (x1.lo))) rfl rfl (by rfl) (by intro x hx; have f0 := hx.load 1 0 rfl rfl; go_simp; (first | done | exact rfl)) ?_
  simp only [List.set_cons_succ, List.set_cons_zero]
  refine lin_val (i := 2) (v := .pointer (some ⟨w.heap.size, 0, none⟩)) rfl rfl (by rfl) (by intro x hx; go_simp; (first | done | exact rfl)) ?_
  simp only [List.set_cons_succ, List.set_cons_zero]
  refine lin_val (i := 3) (v := .int .u64 (tn (x0.lo))) rfl rfl (by rfl) (by intro x hx; have f0 := hx.load 0 0 rfl rfl; go_simp; (first | done | exact rfl)) ?_
  simp only [List.set_cons_succ, List.set_cons_zero]
  refine lin_val (i := 4) (v := .bool (gtU x1.lo x0.lo)) rfl rfl (by rfl) (by intro x hx; go_simp; (first | done | exact gtUT x1.lo x0.lo | exact congrArg _ (gtUT x1.lo x0.lo) | (rw [gtUT x1.lo x0.lo]; done) | (rw [gtUT x1.lo x0.lo]; rfl))) ?_
  simp only [List.set_cons_succ, List.set_cons_zero]
  refine lin_done ?_
  intro W1 hx
  replace HS := hid hx
  clear hx
  cases h1 : (gtU x1.lo x0.lo)
  · replace h1 := hid h1
    -- region 3
    go_upto_region 3 with fail
    refine lin_begin (St w [⟨w.heap.size, [some (.int .u64 (tn (x0.lo))), some (.int .u64 (tn (x0.hi)))], 24⟩, ⟨w.heap.size + 1, [some (.int .u64 (tn (x1.lo))), some (.int .u64 (tn (x1.hi)))], 24⟩, ⟨w.heap.size + 2, [some (.int .u64 0), some (.int .u64 0)], 24⟩]) rfl HS.out ?_
    refine lin_val (i := 0) (v := .pointer (some ⟨w.heap.size + 1, 1, none⟩)) rfl rfl (by rfl) (by intro x hx; go_simp; (first | done | exact rfl)) ?_
    simp only [List.set_cons_succ, List.set_cons_zero]
    refine lin_val (i := 1) (v := .int .u64 (tn (x1.hi))) rfl rfl (by rfl) (by intro x hx; have f0 := hx.load 1 1 rfl rfl; go_simp; (first | done | exact rfl)) ?_
    simp only [List.set_cons_succ, List.set_cons_zero]
    refine lin_val (i := 2) (v := .pointer (some ⟨w.heap.size, 1, none⟩)) rfl rfl (by rfl) (by intro x hx; go_simp; (first | done | exact rfl)) ?_
    simp only [List.set_cons_succ, List.set_cons_zero]
    refine lin_val (i := 3) (v := .int .u64 (tn (x0.hi))) rfl rfl (by rfl) (by intro x hx; have f0 := hx.load 0 1 rfl rfl; go_simp; (first | done | exact rfl)) ?_
    simp only [List.set_cons_succ, List.set_cons_zero]
    refine lin_val (i := 4) (v := .bool (ltU x1.hi x0.hi)) rfl rfl (by rfl) (by intro x hx; go_simp; (first | done | exact ltUT x1.hi x0.hi | exact congrArg _ (ltUT x1.hi x0.hi) | (rw [ltUT x1.hi x0.hi]; done) | (rw [ltUT x1.hi x0.hi]; rfl))) ?_
    simp only [List.set_cons_succ, List.set_cons_zero]
    refine lin_done ?_
    intro W2 hx
    replace HS := hid hx
    clear hx
    cases h2 : (ltU x1.hi x0.hi)
    · replace h2 := hid h2
      -- region 5
      go_upto_region 5 with fail
      refine lin_begin (St w [⟨w.heap.size, [some (.int .u64 (tn (x0.lo))), some (.int .u64 (tn (x0.hi)))], 24⟩, ⟨w.heap.size + 1, [some (.int .u64 (tn (x1.lo))), some (.int .u64 (tn (x1.hi)))], 24⟩, ⟨w.heap.size + 2, [some (.int .u64 0), some (.int .u64 0)], 24⟩]) rfl HS.out ?_
      refine lin_val (i := 0) (v := .pointer (some ⟨w.heap.size, 0, none⟩)) rfl rfl (by rfl) (by intro x hx; go_simp; (first | done | exact rfl)) ?_
      simp only [List.set_cons_succ, List.set_cons_zero]
      refine lin_val (i := 1) (v := .int .u64 (tn (x0.lo))) rfl rfl (by rfl) (by intro x hx; have f0 := hx.load 0 0 rfl rfl; go_simp; (first | done | exact rfl)) ?_
      simp only [List.set_cons_succ, List.set_cons_zero]
      refine lin_val (i := 2) (v := .pointer (some ⟨w.heap.size, 1, none⟩)) rfl rfl (by rfl) (by intro x hx; go_simp; (first | done | exact rfl)) ?_
      simp only [List.set_cons_succ, List.set_cons_zero]
      refine lin_val (i := 3) (v := .int .u64 (tn (x0.hi))) rfl rfl (by rfl) (by intro x hx; have f0 := hx.load 0 1 rfl rfl; go_simp; (first | done | exact rfl)) ?_
      simp only [List.set_cons_succ, List.set_cons_zero]
      refine lin_val (i := 4) (v := .bool (gtU x0.lo x0.hi)) rfl rfl (by rfl) (by intro x hx; go_simp; (first | done | exact gtUT x0.lo x0.hi | exact congrArg _ (gtUT x0.lo x0.hi) | (rw [gtUT x0.lo x0.hi]; done) | (rw [gtUT x0.lo x0.hi]; rfl))) ?_
      simp only [List.set_cons_succ, List.set_cons_zero]
      refine lin_done ?_
      intro W3 hx
      replace HS := hid hx
      clear hx
      cases h3 : (gtU x0.lo x0.hi)
      · replace h3 := hid h3
        -- region 7
        go_upto_region 7 with fail
        refine lin_begin (St w [⟨w.heap.size, [some (.int .u64 (tn (x0.lo))), some (.int .u64 (tn (x0.hi)))], 24⟩, ⟨w.heap.size + 1, [some (.int .u64 (tn (x1.lo))), some (.int .u64 (tn (x1.hi)))], 24⟩, ⟨w.heap.size + 2, [some (.int .u64 0), some (.int .u64 0)], 24⟩]) rfl HS.out ?_
        refine lin_val (i := 0) (v := .agg #[.int .u64 (tn (x0.lo)), .int .u64 (tn (x0.hi))]) rfl rfl (by rfl) (by intro x hx; have f0 := hx.load 0 0 rfl rfl; have f1 := hx.load 0 1 rfl rfl; go_simp; (first | done | exact rfl)) ?_
        simp only [List.set_cons_succ, List.set_cons_zero]
        refine lin_store (i := 1) (St w [⟨w.heap.size, [some (.int .u64 (tn (x0.lo))), some (.int .u64 (tn (x0.hi)))], 24⟩, ⟨w.heap.size + 1, [some (.int .u64 (tn (x1.lo))), some (.int .u64 (tn (x1.hi)))], 24⟩, ⟨w.heap.size + 2, [some (.int .u64 (tn (x0.lo))), some (.int .u64 (tn (x0.hi)))], 24⟩]) rfl rfl (by rfl) (fun x => ((x.setCell ⟨w.heap.size + 2, 0, none⟩ (.int .u64 (tn (x0.lo)))).setCell ⟨w.heap.size + 2, 1, none⟩ (.int .u64 (tn (x0.hi))))) (by intro x hx; obtain ⟨u0, z0⟩ := hx.has 2 0 rfl (by simp); have q0 := hx.soft 2 0 rfl; obtain ⟨u1, z1⟩ := hx.has 2 1 rfl (by simp); have q1 := hx.soft 2 1 rfl; go_simp; (first | done | rfl)) (fun x hx => ((hx.put 2 0 (.int .u64 (tn (x0.lo))) rfl).put 2 1 (.int .u64 (tn (x0.hi))) rfl)) ?_
        refine lin_val (i := 2) (v := .bool true) rfl rfl (by rfl) (by intro x hx; go_simp; (first | done | exact rfl)) ?_
        simp only [List.set_cons_succ, List.set_cons_zero]
        refine lin_done ?_
        intro W4 hx
        replace HS := hid hx
        clear hx
        go_wp2
        have r0 := HS.out.load 2 0 rfl rfl
        have r1 := HS.out.load 2 1 rfl rfl
        have HF : ref_Meet x0 x1 = (x0, true) := by
          unfold ref_Meet
          rw [cond_f h1.out, cond_f h2.out, cond_f h3.out]
        exact bodyPost_ret (v := .tuple #[.agg #[.int .u64 (tn (x0.lo)), .int .u64 (tn (x0.hi))], .bool true]) (by simp [results, Try.results14, go_sem, r0, r1]) rfl ⟨(by first | (rw [HF]; done) | (rw [HF]; rfl)), HS.out.below⟩
      · replace h3 := hid h3
        -- region 6
        go_upto_region 6 with fail
        refine lin_begin (St w [⟨w.heap.size, [some (.int .u64 (tn (x0.lo))), some (.int .u64 (tn (x0.hi)))], 24⟩, ⟨w.heap.size + 1, [some (.int .u64 (tn (x1.lo))), some (.int .u64 (tn (x1.hi)))], 24⟩, ⟨w.heap.size + 2, [some (.int .u64 0), some (.int .u64 0)], 24⟩]) rfl HS.out ?_
        refine lin_val (i := 0) (v := .agg #[.int .u64 0, .int .u64 0]) rfl rfl (by rfl) (by intro x hx; go_simp; (first | done | exact rfl)) ?_
        simp only [List.set_cons_succ, List.set_cons_zero]
        refine lin_store (i := 1) (St w [⟨w.heap.size, [some (.int .u64 (tn (x0.lo))), some (.int .u64 (tn (x0.hi)))], 24⟩, ⟨w.heap.size + 1, [some (.int .u64 (tn (x1.lo))), some (.int .u64 (tn (x1.hi)))], 24⟩, ⟨w.heap.size + 2, [some (.int .u64 0), some (.int .u64 0)], 24⟩]) rfl rfl (by rfl) (fun x => ((x.setCell ⟨w.heap.size + 2, 0, none⟩ (.int .u64 0)).setCell ⟨w.heap.size + 2, 1, none⟩ (.int .u64 0))) (by intro x hx; obtain ⟨u0, z0⟩ := hx.has 2 0 rfl (by simp); have q0 := hx.soft 2 0 rfl; obtain ⟨u1, z1⟩ := hx.has 2 1 rfl (by simp); have q1 := hx.soft 2 1 rfl; go_simp; (first | done | rfl)) (fun x hx => ((hx.put 2 0 (.int .u64 0) rfl).put 2 1 (.int .u64 0) rfl)) ?_
        refine lin_val (i := 2) (v := .bool false) rfl rfl (by rfl) (by intro x hx; go_simp; (first | done | exact rfl)) ?_
        simp only [List.set_cons_succ, List.set_cons_zero]
        refine lin_done ?_
        intro W4 hx
        replace HS := hid hx
        clear hx
        go_wp2
        have r0 := HS.out.load 2 0 rfl rfl
        have r1 := HS.out.load 2 1 rfl rfl
        have HF : ref_Meet x0 x1 = (P.mk 0#64 0#64, false) := by
          unfold ref_Meet
          rw [cond_f h1.out, cond_f h2.out, cond_t h3.out]
        exact bodyPost_ret (v := .tuple #[.agg #[.int .u64 0, .int .u64 0], .bool false]) (by simp [results, Try.results14, go_sem, r0, r1]) rfl ⟨(by first | (rw [HF]; done) | (rw [HF]; rfl)), HS.out.below⟩
    · replace h2 := hid h2
      -- region 4
      go_upto_region 4 with fail
      refine lin_begin (St w [⟨w.heap.size, [some (.int .u64 (tn (x0.lo))), some (.int .u64 (tn (x0.hi)))], 24⟩, ⟨w.heap.size + 1, [some (.int .u64 (tn (x1.lo))), some (.int .u64 (tn (x1.hi)))], 24⟩, ⟨w.heap.size + 2, [some (.int .u64 0), some (.int .u64 0)], 24⟩]) rfl HS.out ?_
      refine lin_val (i := 0) (v := .pointer (some ⟨w.heap.size + 1, 1, none⟩)) rfl rfl (by rfl) (by intro x hx; go_simp; (first | done | exact rfl)) ?_
      simp only [List.set_cons_succ, List.set_cons_zero]
      refine lin_val (i := 1) (v := .int .u64 (tn (x1.hi))) rfl rfl (by rfl) (by intro x hx; have f0 := hx.load 1 1 rfl rfl; go_simp; (first | done | exact rfl)) ?_
      simp only [List.set_cons_succ, List.set_cons_zero]
      refine lin_val (i := 2) (v := .pointer (some ⟨w.heap.size, 1, none⟩)) rfl rfl (by rfl) (by intro x hx; go_simp; (first | done | exact rfl)) ?_
      simp only [List.set_cons_succ, List.set_cons_zero]
      refine lin_store (i := 3) (St w [⟨w.heap.size, [some (.int .u64 (tn (x0.lo))), some (.int .u64 (tn (x1.hi)))], 24⟩, ⟨w.heap.size + 1, [some (.int .u64 (tn (x1.lo))), some (.int .u64 (tn (x1.hi)))], 24⟩, ⟨w.heap.size + 2, [some (.int .u64 0), some (.int .u64 0)], 24⟩]) rfl rfl (by rfl) (fun x => (x.setCell ⟨w.heap.size, 1, none⟩ (.int .u64 (tn (x1.hi))))) (by intro x hx; obtain ⟨u0, z0⟩ := hx.has 0 1 rfl (by simp); have q0 := hx.soft 0 1 rfl; go_simp; (first | done | rfl)) (fun x hx => (hx.put 0 1 (.int .u64 (tn (x1.hi))) rfl)) ?_
      refine lin_done ?_
      intro W3 hx
      replace HS := hid hx
      clear hx
      -- region 5
      go_upto_region 5 with fail
      refine lin_begin (St w [⟨w.heap.size, [some (.int .u64 (tn (x0.lo))), some (.int .u64 (tn (x1.hi)))], 24⟩, ⟨w.heap.size + 1, [some (.int .u64 (tn (x1.lo))), some (.int .u64 (tn (x1.hi)))], 24⟩, ⟨w.heap.size + 2, [some (.int .u64 0), some (.int .u64 0)], 24⟩]) rfl HS.out ?_
      refine lin_val (i := 0) (v := .pointer (some ⟨w.heap.size, 0, none⟩)) rfl rfl (by rfl) (by intro x hx; go_simp; (first | done | exact rfl)) ?_
      simp only [List.set_cons_succ, List.set_cons_zero]
      refine lin_val (i := 1) (v := .int .u64 (tn (x0.lo))) rfl rfl (by rfl) (by intro x hx; have f0 := hx.load 0 0 rfl rfl; go_simp; (first | done | exact rfl)) ?_
      simp only [List.set_cons_succ, List.set_cons_zero]
      refine lin_val (i := 2) (v := .pointer (some ⟨w.heap.size, 1, none⟩)) rfl rfl (by rfl) (by intro x hx; go_simp; (first | done | exact rfl)) ?_
      simp only [List.set_cons_succ, List.set_cons_zero]
      refine lin_val (i := 3) (v := .int .u64 (tn (x1.hi))) rfl rfl (by rfl) (by intro x hx; have f0 := hx.load 0 1 rfl rfl; go_simp; (first | done | exact rfl)) ?_
      simp only [List.set_cons_succ, List.set_cons_zero]
      refine lin_val (i := 4) (v := .bool (gtU x0.lo x1.hi)) rfl rfl (by rfl) (by intro x hx; go_simp; (first | done | exact gtUT x0.lo x1.hi | exact congrArg _ (gtUT x0.lo x1.hi) | (rw [gtUT x0.lo x1.hi]; done) | (rw [gtUT x0.lo x1.hi]; rfl))) ?_
      simp only [List.set_cons_succ, List.set_cons_zero]
      refine lin_done ?_
      intro W4 hx
      replace HS := hid hx
      clear hx
      cases h3 : (gtU x0.lo x1.hi)
      · replace h3 := hid h3
        -- region 7
        go_upto_region 7 with fail
        refine lin_begin (St w [⟨w.heap.size, [some (.int .u64 (tn (x0.lo))), some (.int .u64 (tn (x1.hi)))], 24⟩, ⟨w.heap.size + 1, [some (.int .u64 (tn (x1.lo))), some (.int .u64 (tn (x1.hi)))], 24⟩, ⟨w.heap.size + 2, [some (.int .u64 0), some (.int .u64 0)], 24⟩]) rfl HS.out ?_
        refine lin_val (i := 0) (v := .agg #[.int .u64 (tn (x0.lo)), .int .u64 (tn (x1.hi))]) rfl rfl (by rfl) (by intro x hx; have f0 := hx.load 0 0 rfl rfl; have f1 := hx.load 0 1 rfl rfl; go_simp; (first | done | exact rfl)) ?_
        simp only [List.set_cons_succ, List.set_cons_zero]
        refine lin_store (i := 1) (St w [⟨w.heap.size, [some (.int .u64 (tn (x0.lo))), some (.int .u64 (tn (x1.hi)))], 24⟩, ⟨w.heap.size + 1, [some (.int .u64 (tn (x1.lo))), some (.int .u64 (tn (x1.hi)))], 24⟩, ⟨w.heap.size + 2, [some (.int .u64 (tn (x0.lo))), some (.int .u64 (tn (x1.hi)))], 24⟩]) rfl rfl (by rfl) (fun x => ((x.setCell ⟨w.heap.size + 2, 0, none⟩ (.int .u64 (tn (x0.lo)))).setCell ⟨w.heap.size + 2, 1, none⟩ (.int .u64 (tn (x1.hi))))) (by intro x hx; obtain ⟨u0, z0⟩ := hx.has 2 0 rfl (by simp); have q0 := hx.soft 2 0 rfl; obtain ⟨u1, z1⟩ := hx.has 2 1 rfl (by simp); have q1 := hx.soft 2 1 rfl; go_simp; (first | done | rfl)) (fun x hx => ((hx.put 2 0 (.int .u64 (tn (x0.lo))) rfl).put 2 1 (.int .u64 (tn (x1.hi))) rfl)) ?_
        refine lin_val (i := 2) (v := .bool true) rfl rfl (by rfl) (by intro x hx; go_simp; (first | done | exact rfl)) ?_
        simp only [List.set_cons_succ, List.set_cons_zero]
        refine lin_done ?_
        intro W5 hx
        replace HS := hid hx
        clear hx
        go_wp2
        have r0 := HS.out.load 2 0 rfl rfl
        have r1 := HS.out.load 2 1 rfl rfl
        have HF : ref_Meet x0 x1 = (P.mk x0.lo x1.hi, true) := by
          unfold ref_Meet
          rw [cond_f h1.out, cond_t h2.out, cond_f h3.out]
        exact bodyPost_ret (v := .tuple #[.agg #[.int .u64 (tn (x0.lo)), .int .u64 (tn (x1.hi))], .bool true]) (by simp [results, Try.results14, go_sem, r0, r1]) rfl ⟨(by first | (rw [HF]; done) | (rw [HF]; rfl)), HS.out.below⟩
      · replace h3 := hid h3
        -- region 6
        go_upto_region 6 with fail
        refine lin_begin (St w [⟨w.heap.size, [some (.int .u64 (tn (x0.lo))), some (.int .u64 (tn (x1.hi)))], 24⟩, ⟨w.heap.size + 1, [some (.int .u64 (tn (x1.lo))), some (.int .u64 (tn (x1.hi)))], 24⟩, ⟨w.heap.size + 2, [some (.int .u64 0), some (.int .u64 0)], 24⟩]) rfl HS.out ?_
        refine lin_val (i := 0) (v := .agg #[.int .u64 0, .int .u64 0]) rfl rfl (by rfl) (by intro x hx; go_simp; (first | done | exact rfl)) ?_
        simp only [List.set_cons_succ, List.set_cons_zero]
        refine lin_store (i := 1) (St w [⟨w.heap.size, [some (.int .u64 (tn (x0.lo))), some (.int .u64 (tn (x1.hi)))], 24⟩, ⟨w.heap.size + 1, [some (.int .u64 (tn (x1.lo))), some (.int .u64 (tn (x1.hi)))], 24⟩, ⟨w.heap.size + 2, [some (.int .u64 0), some (.int .u64 0)], 24⟩]) rfl rfl (by rfl) (fun x => ((x.setCell ⟨w.heap.size + 2, 0, none⟩ (.int .u64 0)).setCell ⟨w.heap.size + 2, 1, none⟩ (.int .u64 0))) (by intro x hx; obtain ⟨u0, z0⟩ := hx.has 2 0 rfl (by simp); have q0 := hx.soft 2 0 rfl; obtain ⟨u1, z1⟩ := hx.has 2 1 rfl (by simp); have q1 := hx.soft 2 1 rfl; go_simp; (first | done | rfl)) (fun x hx => ((hx.put 2 0 (.int .u64 0) rfl).put 2 1 (.int .u64 0) rfl)) ?_
        refine lin_val (i := 2) (v := .bool false) rfl rfl (by rfl) (by intro x hx; go_simp; (first | done | exact rfl)) ?_
        simp only [List.set_cons_succ, List.set_cons_zero]
        refine lin_done ?_
        intro W5 hx
        replace HS := hid hx
        clear hx
        go_wp2
        have r0 := HS.out.load 2 0 rfl rfl
        have r1 := HS.out.load 2 1 rfl rfl
        have HF : ref_Meet x0 x1 = (P.mk 0#64 0#64, false) := by
          unfold ref_Meet
          rw [cond_f h1.out, cond_t h2.out, cond_t h3.out]
        exact bodyPost_ret (v := .tuple #[.agg #[.int .u64 0, .int .u64 0], .bool false]) (by simp [results, Try.results14, go_sem, r0, r1]) rfl ⟨(by first | (rw [HF]; done) | (rw [HF]; rfl)), HS.out.below⟩
  · replace h1 := hid h1
    -- region 2
    go_upto_region 2 with fail
    refine lin_begin (St w [⟨w.heap.size, [some (.int .u64 (tn (x0.lo))), some (.int .u64 (tn (x0.hi)))], 24⟩, ⟨w.heap.size + 1, [some (.int .u64 (tn (x1.lo))), some (.int .u64 (tn (x1.hi)))], 24⟩, ⟨w.heap.size + 2, [some (.int .u64 0), some (.int .u64 0)], 24⟩]) rfl HS.out ?_
    refine lin_val (i := 0) (v := .pointer (some ⟨w.heap.size + 1, 0, none⟩)) rfl rfl (by rfl) (by intro x hx; go_simp; (first | done | exact rfl)) ?_
    simp only [List.set_cons_succ, List.set_cons_zero]
    refine lin_val (i := 1) (v := .int .u64 (tn (x1.lo))) rfl rfl (by rfl) (by intro x hx; have f0 := hx.load 1 0 rfl rfl; go_simp; (first | done | exact rfl)) ?_
    simp only [List.set_cons_succ, List.set_cons_zero]
    refine lin_val (i := 2) (v := .pointer (some ⟨w.heap.size, 0, none⟩)) rfl rfl (by rfl) (by intro x hx; go_simp; (first | done | exact rfl)) ?_
    simp only [List.set_cons_succ, List.set_cons_zero]
    refine lin_store (i := 3) (St w [⟨w.heap.size, [some (.int .u64 (tn (x1.lo))), some (.int .u64 (tn (x0.hi)))], 24⟩, ⟨w.heap.size + 1, [some (.int .u64 (tn (x1.lo))), some (.int .u64 (tn (x1.hi)))], 24⟩, ⟨w.heap.size + 2, [some (.int .u64 0), some (.int .u64 0)], 24⟩]) rfl rfl (by rfl) (fun x => (x.setCell ⟨w.heap.size, 0, none⟩ (.int .u64 (tn (x1.lo))))) (by intro x hx; obtain ⟨u0, z0⟩ := hx.has 0 0 rfl (by simp); have q0 := hx.soft 0 0 rfl; go_simp; (first | done | rfl)) (fun x hx => (hx.put 0 0 (.int .u64 (tn (x1.lo))) rfl)) ?_
    refine lin_done ?_
    intro W2 hx
    replace HS := hid hx
    clear hx
    -- region 3
    go_upto_region 3 with fail
    refine lin_begin (St w [⟨w.heap.size, [some (.int .u64 (tn (x1.lo))), some (.int .u64 (tn (x0.hi)))], 24⟩, ⟨w.heap.size + 1, [some (.int .u64 (tn (x1.lo))), some (.int .u64 (tn (x1.hi)))], 24⟩, ⟨w.heap.size + 2, [some (.int .u64 0), some (.int .u64 0)], 24⟩]) rfl HS.out ?_
    refine lin_val (i := 0) (v := .pointer (some ⟨w.heap.size + 1, 1, none⟩)) rfl rfl (by rfl) (by intro x hx; go_simp; (first | done | exact rfl)) ?_
    simp only [List.set_cons_succ, List.set_cons_zero]
    refine lin_val (i := 1) (v := .int .u64 (tn (x1.hi))) rfl rfl (by rfl) (by intro x hx; have f0 := hx.load 1 1 rfl rfl; go_simp; (first | done | exact rfl)) ?_
    simp only [List.set_cons_succ, List.set_cons_zero]
    refine lin_val (i := 2) (v := .pointer (some ⟨w.heap.size, 1, none⟩)) rfl rfl (by rfl) (by intro x hx; go_simp; (first | done | exact rfl)) ?_
    simp only [List.set_cons_succ, List.set_cons_zero]
    refine lin_val (i := 3) (v := .int .u64 (tn (x0.hi))) rfl rfl (by rfl) (by intro x hx; have f0 := hx.load 0 1 rfl rfl; go_simp; (first | done | exact rfl)) ?_
    simp only [List.set_cons_succ, List.set_cons_zero]
    refine lin_val (i := 4) (v := .bool (ltU x1.hi x0.hi)) rfl rfl (by rfl) (by intro x hx; go_simp; (first | done | exact ltUT x1.hi x0.hi | exact congrArg _ (ltUT x1.hi x0.hi) | (rw [ltUT x1.hi x0.hi]; done) | (rw [ltUT x1.hi x0.hi]; rfl))) ?_
    simp only [List.set_cons_succ, List.set_cons_zero]
    refine lin_done ?_
    intro W3 hx
    replace HS := hid hx
    clear hx
    cases h2 : (ltU x1.hi x0.hi)
    · replace h2 := hid h2
      -- region 5
      go_upto_region 5 with fail
      refine lin_begin (St w [⟨w.heap.size, [some (.int .u64 (tn (x1.lo))), some (.int .u64 (tn (x0.hi)))], 24⟩, ⟨w.heap.size + 1, [some (.int .u64 (tn (x1.lo))), some (.int .u64 (tn (x1.hi)))], 24⟩, ⟨w.heap.size + 2, [some (.int .u64 0), some (.int .u64 0)], 24⟩]) rfl HS.out ?_
      refine lin_val (i := 0) (v := .pointer (some ⟨w.heap.size, 0, none⟩)) rfl rfl (by rfl) (by intro x hx; go_simp; (first | done | exact rfl)) ?_
      simp only [List.set_cons_succ, List.set_cons_zero]
      refine lin_val (i := 1) (v := .int .u64 (tn (x1.lo))) rfl rfl (by rfl) (by intro x hx; have f0 := hx.load 0 0 rfl rfl; go_simp; (first | done | exact rfl)) ?_
      simp only [List.set_cons_succ, List.set_cons_zero]
      refine lin_val (i := 2) (v := .pointer (some ⟨w.heap.size, 1, none⟩)) rfl rfl (by rfl) (by intro x hx; go_simp; (first | done | exact rfl)) ?_
      simp only [List.set_cons_succ, List.set_cons_zero]
      refine lin_val (i := 3) (v := .int .u64 (tn (x0.hi))) rfl rfl (by rfl) (by intro x hx; have f0 := hx.load 0 1 rfl rfl; go_simp; (first | done | exact rfl)) ?_
      simp only [List.set_cons_succ, List.set_cons_zero]
      refine lin_val (i := 4) (v := .bool (gtU x1.lo x0.hi)) rfl rfl (by rfl) (by intro x hx; go_simp; (first | done | exact gtUT x1.lo x0.hi | exact congrArg _ (gtUT x1.lo x0.hi) | (rw [gtUT x1.lo x0.hi]; done) | (rw [gtUT x1.lo x0.hi]; rfl))) ?_
      simp only [List.set_cons_succ, List.set_cons_zero]
      refine lin_done ?_
      intro W4 hx
      replace HS := hid hx
      clear hx
      cases h3 : (gtU x1.lo x0.hi)
      · replace h3 := hid h3
        -- region 7
        go_upto_region 7 with fail
        refine lin_begin (St w [⟨w.heap.size, [some (.int .u64 (tn (x1.lo))), some (.int .u64 (tn (x0.hi)))], 24⟩, ⟨w.heap.size + 1, [some (.int .u64 (tn (x1.lo))), some (.int .u64 (tn (x1.hi)))], 24⟩, ⟨w.heap.size + 2, [some (.int .u64 0), some (.int .u64 0)], 24⟩]) rfl HS.out ?_
        refine lin_val (i := 0) (v := .agg #[.int .u64 (tn (x1.lo)), .int .u64 (tn (x0.hi))]) rfl rfl (by rfl) (by intro x hx; have f0 := hx.load 0 0 rfl rfl; have f1 := hx.load 0 1 rfl rfl; go_simp; (first | done | exact rfl)) ?_
        simp only [List.set_cons_succ, List.set_cons_zero]
        refine lin_store (i := 1) (St w [⟨w.heap.size, [some (.int .u64 (tn (x1.lo))), some (.int .u64 (tn (x0.hi)))], 24⟩, ⟨w.heap.size + 1, [some (.int .u64 (tn (x1.lo))), some (.int .u64 (tn (x1.hi)))], 24⟩, ⟨w.heap.size + 2, [some (.int .u64 (tn (x1.lo))), some (.int .u64 (tn (x0.hi)))], 24⟩]) rfl rfl (by rfl) (fun x => ((x.setCell ⟨w.heap.size + 2, 0, none⟩ (.int .u64 (tn (x1.lo)))).setCell ⟨w.heap.size + 2, 1, none⟩ (.int .u64 (tn (x0.hi))))) (by intro x hx; obtain ⟨u0, z0⟩ := hx.has 2 0 rfl (by simp); have q0 := hx.soft 2 0 rfl; obtain ⟨u1, z1⟩ := hx.has 2 1 rfl (by simp); have q1 := hx.soft 2 1 rfl; go_simp; (first | done | rfl)) (fun x hx => ((hx.put 2 0 (.int .u64 (tn (x1.lo))) rfl).put 2 1 (.int .u64 (tn (x0.hi))) rfl)) ?_
        refine lin_val (i := 2) (v := .bool true) rfl rfl (by rfl) (by intro x hx; go_simp; (first | done | exact rfl)) ?_
        simp only [List.set_cons_succ, List.set_cons_zero]
        refine lin_done ?_
        intro W5 hx
        replace HS := hid hx
        clear hx
        go_wp2
        have r0 := HS.out.load 2 0 rfl rfl
        have r1 := HS.out.load 2 1 rfl rfl
        have HF : ref_Meet x0 x1 = (P.mk x1.lo x0.hi, true) := by
          unfold ref_Meet
          rw [cond_t h1.out, cond_f h2.out, cond_f h3.out]
        exact bodyPost_ret (v := .tuple #[.agg #[.int .u64 (tn (x1.lo)), .int .u64 (tn (x0.hi))], .bool true]) (by simp [results, Try.results14, go_sem, r0, r1]) rfl ⟨(by first | (rw [HF]; done) | (rw [HF]; rfl)), HS.out.below⟩
      · replace h3 := hid h3
        -- region 6
        go_upto_region 6 with fail
        refine lin_begin (St w [⟨w.heap.size, [some (.int .u64 (tn (x1.lo))), some (.int .u64 (tn (x0.hi)))], 24⟩, ⟨w.heap.size + 1, [some (.int .u64 (tn (x1.lo))), some (.int .u64 (tn (x1.hi)))], 24⟩, ⟨w.heap.size + 2, [some (.int .u64 0), some (.int .u64 0)], 24⟩]) rfl HS.out ?_
        refine lin_val (i := 0) (v := .agg #[.int .u64 0, .int .u64 0]) rfl rfl (by rfl) (by intro x hx; go_simp; (first | done | exact rfl)) ?_
        simp only [List.set_cons_succ, List.set_cons_zero]
        refine lin_store (i := 1) (St w [⟨w.heap.size, [some (.int .u64 (tn (x1.lo))), some (.int .u64 (tn (x0.hi)))], 24⟩, ⟨w.heap.size + 1, [some (.int .u64 (tn (x1.lo))), some (.int .u64 (tn (x1.hi)))], 24⟩, ⟨w.heap.size + 2, [some (.int .u64 0), some (.int .u64 0)], 24⟩]) rfl rfl (by rfl) (fun x => ((x.setCell ⟨w.heap.size + 2, 0, none⟩ (.int .u64 0)).setCell ⟨w.heap.size + 2, 1, none⟩ (.int .u64 0))) (by intro x hx; obtain ⟨u0, z0⟩ := hx.has 2 0 rfl (by simp); have q0 := hx.soft 2 0 rfl; obtain ⟨u1, z1⟩ := hx.has 2 1 rfl (by simp); have q1 := hx.soft 2 1 rfl; go_simp; (first | done | rfl)) (fun x hx => ((hx.put 2 0 (.int .u64 0) rfl).put 2 1 (.int .u64 0) rfl)) ?_
        refine lin_val (i := 2) (v := .bool false) rfl rfl (by rfl) (by intro x hx; go_simp; (first | done | exact rfl)) ?_
        simp only [List.set_cons_succ, List.set_cons_zero]
        refine lin_done ?_
        intro W5 hx
        replace HS := hid hx
        clear hx
        go_wp2
        have r0 := HS.out.load 2 0 rfl rfl
        have r1 := HS.out.load 2 1 rfl rfl
        have HF : ref_Meet x0 x1 = (P.mk 0#64 0#64, false) := by
          unfold ref_Meet
          rw [cond_t h1.out, cond_f h2.out, cond_t h3.out]
        exact bodyPost_ret (v := .tuple #[.agg #[.int .u64 0, .int .u64 0], .bool false]) (by simp [results, Try.results14, go_sem, r0, r1]) rfl ⟨(by first | (rw [HF]; done) | (rw [HF]; rfl)), HS.out.below⟩
    · replace h2 := hid h2
      -- region 4
      go_upto_region 4 with fail
      refine lin_begin (St w [⟨w.heap.size, [some (.int .u64 (tn (x1.lo))), some (.int .u64 (tn (x0.hi)))], 24⟩, ⟨w.heap.size + 1, [some (.int .u64 (tn (x1.lo))), some (.int .u64 (tn (x1.hi)))], 24⟩, ⟨w.heap.size + 2, [some (.int .u64 0), some (.int .u64 0)], 24⟩]) rfl HS.out ?_
      refine lin_val (i := 0) (v := .pointer (some ⟨w.heap.size + 1, 1, none⟩)) rfl rfl (by rfl) (by intro x hx; go_simp; (first | done | exact rfl)) ?_
      simp only [List.set_cons_succ, List.set_cons_zero]
      refine lin_val (i := 1) (v := .int .u64 (tn (x1.hi))) rfl rfl (by rfl) (by intro x hx; have f0 := hx.load 1 1 rfl rfl; go_simp; (first | done | exact rfl)) ?_
      simp only [List.set_cons_succ, List.set_cons_zero]
      refine lin_val (i := 2) (v := .pointer (some ⟨w.heap.size, 1, none⟩)) rfl rfl (by rfl) (by intro x hx; go_simp; (first | done | exact rfl)) ?_
      simp only [List.set_cons_succ, List.set_cons_zero]
      refine lin_store (i := 3) (St w [⟨w.heap.size, [some (.int .u64 (tn (x1.lo))), some (.int .u64 (tn (x1.hi)))], 24⟩, ⟨w.heap.size + 1, [some (.int .u64 (tn (x1.lo))), some (.int .u64 (tn (x1.hi)))], 24⟩, ⟨w.heap.size + 2, [some (.int .u64 0), some (.int .u64 0)], 24⟩]) rfl rfl (by rfl) (fun x => (x.setCell ⟨w.heap.size, 1, none⟩ (.int .u64 (tn (x1.hi))))) (by intro x hx; obtain ⟨u0, z0⟩ := hx.has 0 1 rfl (by simp); have q0 := hx.soft 0 1 rfl; go_simp; (first | done | rfl)) (fun x hx => (hx.put 0 1 (.int .u64 (tn (x1.hi))) rfl)) ?_
      refine lin_done ?_
      intro W4 hx
      replace HS := hid hx
      clear hx
      -- region 5
      go_upto_region 5 with fail
      refine lin_begin (St w [⟨w.heap.size, [some (.int .u64 (tn (x1.lo))), some (.int .u64 (tn (x1.hi)))], 24⟩, ⟨w.heap.size + 1, [some (.int .u64 (tn (x1.lo))), some (.int .u64 (tn (x1.hi)))], 24⟩, ⟨w.heap.size + 2, [some (.int .u64 0), some (.int .u64 0)], 24⟩]) rfl HS.out ?_
      refine lin_val (i := 0) (v := .pointer (some ⟨w.heap.size, 0, none⟩)) rfl rfl (by rfl) (by intro x hx; go_simp; (first | done | exact rfl)) ?_
      simp only [List.set_cons_succ, List.set_cons_zero]
      refine lin_val (i := 1) (v := .int .u64 (tn (x1.lo))) rfl rfl (by rfl) (by intro x hx; have f0 := hx.load 0 0 rfl rfl; go_simp; (first | done | exact rfl)) ?_
      simp only [List.set_cons_succ, List.set_cons_zero]
      refine lin_val (i := 2) (v := .pointer (some ⟨w.heap.size, 1, none⟩)) rfl rfl (by rfl) (by intro x hx; go_simp; (first | done | exact rfl)) ?_
      simp only [List.set_cons_succ, List.set_cons_zero]
      refine lin_val (i := 3) (v := .int .u64 (tn (x1.hi))) rfl rfl (by rfl) (by intro x hx; have f0 := hx.load 0 1 rfl rfl; go_simp; (first | done | exact rfl)) ?_
      simp only [List.set_cons_succ, List.set_cons_zero]
      refine lin_val (i := 4) (v := .bool (gtU x1.lo x1.hi)) rfl rfl (by rfl) (by intro x hx; go_simp; (first | done | exact gtUT x1.lo x1.hi | exact congrArg _ (gtUT x1.lo x1.hi) | (rw [gtUT x1.lo x1.hi]; done) | (rw [gtUT x1.lo x1.hi]; rfl))) ?_
      simp only [List.set_cons_succ, List.set_cons_zero]
      refine lin_done ?_
      intro W5 hx
      replace HS := hid hx
      clear hx
      cases h3 : (gtU x1.lo x1.hi)
      · replace h3 := hid h3
        -- region 7
        go_upto_region 7 with fail
        refine lin_begin (St w [⟨w.heap.size, [some (.int .u64 (tn (x1.lo))), some (.int .u64 (tn (x1.hi)))], 24⟩, ⟨w.heap.size + 1, [some (.int .u64 (tn (x1.lo))), some (.int .u64 (tn (x1.hi)))], 24⟩, ⟨w.heap.size + 2, [some (.int .u64 0), some (.int .u64 0)], 24⟩]) rfl HS.out ?_
        refine lin_val (i := 0) (v := .agg #[.int .u64 (tn (x1.lo)), .int .u64 (tn (x1.hi))]) rfl rfl (by rfl) (by intro x hx; have f0 := hx.load 0 0 rfl rfl; have f1 := hx.load 0 1 rfl rfl; go_simp; (first | done | exact rfl)) ?_
        simp only [List.set_cons_succ, List.set_cons_zero]
        refine lin_store (i := 1) (St w [⟨w.heap.size, [some (.int .u64 (tn (x1.lo))), some (.int .u64 (tn (x1.hi)))], 24⟩, ⟨w.heap.size + 1, [some (.int .u64 (tn (x1.lo))), some (.int .u64 (tn (x1.hi)))], 24⟩, ⟨w.heap.size + 2, [some (.int .u64 (tn (x1.lo))), some (.int .u64 (tn (x1.hi)))], 24⟩]) rfl rfl (by rfl) (fun x => ((x.setCell ⟨w.heap.size + 2, 0, none⟩ (.int .u64 (tn (x1.lo)))).setCell ⟨w.heap.size + 2, 1, none⟩ (.int .u64 (tn (x1.hi))))) (by intro x hx; obtain ⟨u0, z0⟩ := hx.has 2 0 rfl (by simp); have q0 := hx.soft 2 0 rfl; obtain ⟨u1, z1⟩ := hx.has 2 1 rfl (by simp); have q1 := hx.soft 2 1 rfl; go_simp; (first | done | rfl)) (fun x hx => ((hx.put 2 0 (.int .u64 (tn (x1.lo))) rfl).put 2 1 (.int .u64 (tn (x1.hi))) rfl)) ?_
        refine lin_val (i := 2) (v := .bool true) rfl rfl (by rfl) (by intro x hx; go_simp; (first | done | exact rfl)) ?_
        simp only [List.set_cons_succ, List.set_cons_zero]
        refine lin_done ?_
        intro W6 hx
        replace HS := hid hx
        clear hx
        go_wp2
        have r0 := HS.out.load 2 0 rfl rfl
        have r1 := HS.out.load 2 1 rfl rfl
        have HF : ref_Meet x0 x1 = (x1, true) := by
          unfold ref_Meet
          rw [cond_t h1.out, cond_t h2.out, cond_f h3.out]
        exact bodyPost_ret (v := .tuple #[.agg #[.int .u64 (tn (x1.lo)), .int .u64 (tn (x1.hi))], .bool true]) (by simp [results, Try.results14, go_sem, r0, r1]) rfl ⟨(by first | (rw [HF]; done) | (rw [HF]; rfl)), HS.out.below⟩
      · replace h3 := hid h3
        -- region 6
        go_upto_region 6 with fail
        refine lin_begin (St w [⟨w.heap.size, [some (.int .u64 (tn (x1.lo))), some (.int .u64 (tn (x1.hi)))], 24⟩, ⟨w.heap.size + 1, [some (.int .u64 (tn (x1.lo))), some (.int .u64 (tn (x1.hi)))], 24⟩, ⟨w.heap.size + 2, [some (.int .u64 0), some (.int .u64 0)], 24⟩]) rfl HS.out ?_
        refine lin_val (i := 0) (v := .agg #[.int .u64 0, .int .u64 0]) rfl rfl (by rfl) (by intro x hx; go_simp; (first | done | exact rfl)) ?_
        simp only [List.set_cons_succ, List.set_cons_zero]
        refine lin_store (i := 1) (St w [⟨w.heap.size, [some (.int .u64 (tn (x1.lo))), some (.int .u64 (tn (x1.hi)))], 24⟩, ⟨w.heap.size + 1, [some (.int .u64 (tn (x1.lo))), some (.int .u64 (tn (x1.hi)))], 24⟩, ⟨w.heap.size + 2, [some (.int .u64 0), some (.int .u64 0)], 24⟩]) rfl rfl (by rfl) (fun x => ((x.setCell ⟨w.heap.size + 2, 0, none⟩ (.int .u64 0)).setCell ⟨w.heap.size + 2, 1, none⟩ (.int .u64 0))) (by intro x hx; obtain ⟨u0, z0⟩ := hx.has 2 0 rfl (by simp); have q0 := hx.soft 2 0 rfl; obtain ⟨u1, z1⟩ := hx.has 2 1 rfl (by simp); have q1 := hx.soft 2 1 rfl; go_simp; (first | done | rfl)) (fun x hx => ((hx.put 2 0 (.int .u64 0) rfl).put 2 1 (.int .u64 0) rfl)) ?_
        refine lin_val (i := 2) (v := .bool false) rfl rfl (by rfl) (by intro x hx; go_simp; (first | done | exact rfl)) ?_
        simp only [List.set_cons_succ, List.set_cons_zero]
        refine lin_done ?_
        intro W6 hx
        replace HS := hid hx
        clear hx
        go_wp2
        have r0 := HS.out.load 2 0 rfl rfl
        have r1 := HS.out.load 2 1 rfl rfl
        have HF : ref_Meet x0 x1 = (P.mk 0#64 0#64, false) := by
          unfold ref_Meet
          rw [cond_t h1.out, cond_t h2.out, cond_t h3.out]
        exact bodyPost_ret (v := .tuple #[.agg #[.int .u64 0, .int .u64 0], .bool false]) (by simp [results, Try.results14, go_sem, r0, r1]) rfl ⟨(by first | (rw [HF]; done) | (rw [HF]; rfl)), HS.out.below⟩
def ref_Smeet (x0 : P) (x1 : P) : P × Bool :=
  bif gtI x1.lo x0.lo then (bif ltI x1.hi x0.hi then (bif gtI x1.lo x1.hi then ((P.mk 0#64 0#64, false)) else ((x1, true))) else (bif gtI x1.lo x0.hi then ((P.mk 0#64 0#64, false)) else ((P.mk x1.lo x0.hi, true)))) else (bif ltI x1.hi x0.hi then (bif gtI x0.lo x1.hi then ((P.mk 0#64 0#64, false)) else ((P.mk x0.lo x1.hi, true))) else (bif gtI x0.lo x0.hi then ((P.mk 0#64 0#64, false)) else ((x0, true))))
set_option maxRecDepth 100000 in
set_option maxHeartbeats 1000000 in
theorem ref_Smeet_any (x0 : P) (x1 : P)  (w : World) :
    Calls Try.prog 49 #[.agg #[.int .i64 (ti (x0.lo)), .int .i64 (ti (x0.hi))], .agg #[.int .i64 (ti (x1.lo)), .int .i64 (ti (x1.hi))]] w fun e w' => e = .returned (.tuple #[.agg #[.int .i64 (ti (((ref_Smeet x0 x1).1).lo)), .int .i64 (ti (((ref_Smeet x0 x1).1).hi))], .bool ((ref_Smeet x0 x1).2)]) ∧ Below w.heap.size w w' := by
  go_enter Try.func49, Try.ntmps49
  have HS := hid ((((st_nil w).alloc (k := w.heap.size) rfl [.int .i64 (ti (x0.lo)), .int .i64 (ti (x0.hi))] 38).alloc (k := w.heap.size + 1) (by simp) [.int .i64 (ti (x1.lo)), .int .i64 (ti (x1.hi))] 38).alloc (k := w.heap.size + 2) (by simp) [.int .i64 0, .int .i64 0] 38)
  -- region 1
  go_upto_region 1 with fail
  refine lin_begin (St w [⟨w.heap.size, [some (.int .i64 (ti (x0.lo))), some (.int .i64 (ti (x0.hi)))], 38⟩, ⟨w.heap.size + 1, [some (.int .i64 (ti (x1.lo))), some (.int .i64 (ti (x1.hi)))], 38⟩, ⟨w.heap.size + 2, [some (.int .i64 0), some (.int .i64 0)], 38⟩]) rfl HS.out ?_
  refine lin_val (i := 0) (v := .pointer (some ⟨w.heap.size + 1, 0, none⟩)) rfl rfl (by rfl) (by intro x hx; go_simp; (first | done | exact rfl)) ?_
  simp only [List.set_cons_succ, List.set_cons_zero]
  refine lin_val (i := 1) (v := .int .i64 (ti (x1.lo))) rfl rfl (by rfl) (by intro x hx; have f0 := hx.load 1 0 rfl rfl; go_simp; (first | done | exact rfl)) ?_
  simp only [List.set_cons_succ, List.set_cons_zero]
  refine lin_val (i := 2) (v := .pointer (some ⟨w.heap.size, 0, none⟩)) rfl rfl (by rfl) (by intro x hx; go_simp; (first | done | exact rfl)) ?_
  simp only [List.set_cons_succ, List.set_cons_zero]
  refine lin_val (i := 3) (v := .int .i64 (ti (x0.lo))) rfl rfl (by rfl) (by intro x hx; have f0 := hx.load 0 0 rfl rfl; go_simp; (first | done | exact rfl)) ?_
  simp only [List.set_cons_succ, List.set_cons_zero]
  refine lin_val (i := 4) (v := .bool (gtI x1.lo x0.lo)) rfl rfl (by rfl) (by intro x hx; go_simp; (first | done | exact gtIT x1.lo x0.lo | exact congrArg _ (gtIT x1.lo x0.lo) | (rw [gtIT x1.lo x0.lo]; done) | (rw [gtIT x1.lo x0.lo]; rfl))) ?_
  simp only [List.set_cons_succ, List.set_cons_zero]
  refine lin_done ?_
  intro W1 hx
  replace HS := hid hx
  clear hx
  cases h1 : (gtI x1.lo x0.lo)
  · replace h1 := hid h1
    -- region 3
    go_upto_region 3 with fail
    refine lin_begin (St w [⟨w.heap.size, [some (.int .i64 (ti (x0.lo))), some (.int .i64 (ti (x0.hi)))], 38⟩, ⟨w.heap.size + 1, [some (.int .i64 (ti (x1.lo))), some (.int .i64 (ti (x1.hi)))], 38⟩, ⟨w.heap.size + 2, [some (.int .i64 0), some (.int .i64 0)], 38⟩]) rfl HS.out ?_
    refine lin_val (i := 0) (v := .pointer (some ⟨w.heap.size + 1, 1, none⟩)) rfl rfl (by rfl) (by intro x hx; go_simp; (first | done | exact rfl)) ?_
    simp only [List.set_cons_succ, List.set_cons_zero]
    refine lin_val (i := 1) (v := .int .i64 (ti (x1.hi))) rfl rfl (by rfl) (by intro x hx; have f0 := hx.load 1 1 rfl rfl; go_simp; (first | done | exact rfl)) ?_
    simp only [List.set_cons_succ, List.set_cons_zero]
    refine lin_val (i := 2) (v := .pointer (some ⟨w.heap.size, 1, none⟩)) rfl rfl (by rfl) (by intro x hx; go_simp; (first | done | exact rfl)) ?_
    simp only [List.set_cons_succ, List.set_cons_zero]
    refine lin_val (i := 3) (v := .int .i64 (ti (x0.hi))) rfl rfl (by rfl) (by intro x hx; have f0 := hx.load 0 1 rfl rfl; go_simp; (first | done | exact rfl)) ?_
    simp only [List.set_cons_succ, List.set_cons_zero]
    refine lin_val (i := 4) (v := .bool (ltI x1.hi x0.hi)) rfl rfl (by rfl) (by intro x hx; go_simp; (first | done | exact ltIT x1.hi x0.hi | exact congrArg _ (ltIT x1.hi x0.hi) | (rw [ltIT x1.hi x0.hi]; done) | (rw [ltIT x1.hi x0.hi]; rfl))) ?_
    simp only [List.set_cons_succ, List.set_cons_zero]
    refine lin_done ?_
    intro W2 hx
    replace HS := hid hx
    clear hx
    cases h2 : (ltI x1.hi x0.hi)
    · replace h2 := hid h2
      -- region 5
      go_upto_region 5 with fail
      refine lin_begin (St w [⟨w.heap.size, [some (.int .i64 (ti (x0.lo))), some (.int .i64 (ti (x0.hi)))], 38⟩, ⟨w.heap.size + 1, [some (.int .i64 (ti (x1.lo))), some (.int .i64 (ti (x1.hi)))], 38⟩, ⟨w.heap.size + 2, [some (.int .i64 0), some (.int .i64 0)], 38⟩]) rfl HS.out ?_
      refine lin_val (i := 0) (v := .pointer (some ⟨w.heap.size, 0, none⟩)) rfl rfl (by rfl) (by intro x hx; go_simp; (first | done | exact rfl)) ?_
      simp only [List.set_cons_succ, List.set_cons_zero]
      refine lin_val (i := 1) (v := .int .i64 (ti (x0.lo))) rfl rfl (by rfl) (by intro x hx; have f0 := hx.load 0 0 rfl rfl; go_simp; (first | done | exact rfl)) ?_
      simp only [List.set_cons_succ, List.set_cons_zero]
      refine lin_val (i := 2) (v := .pointer (some ⟨w.heap.size, 1, none⟩)) rfl rfl (by rfl) (by intro x hx; go_simp; (first | done | exact rfl)) ?_
      simp only [List.set_cons_succ, List.set_cons_zero]
      refine lin_val (i := 3) (v := .int .i64 (ti (x0.hi))) rfl rfl (by rfl) (by intro x hx; have f0 := hx.load 0 1 rfl rfl; go_simp; (first | done | exact rfl)) ?_
      simp only [List.set_cons_succ, List.set_cons_zero]
      refine lin_val (i := 4) (v := .bool (gtI x0.lo x0.hi)) rfl rfl (by rfl) (by intro x hx; go_simp; (first | done | exact gtIT x0.lo x0.hi | exact congrArg _ (gtIT x0.lo x0.hi) | (rw [gtIT x0.lo x0.hi]; done) | (rw [gtIT x0.lo x0.hi]; rfl))) ?_
      simp only [List.set_cons_succ, List.set_cons_zero]
      refine lin_done ?_
      intro W3 hx
      replace HS := hid hx
      clear hx
      cases h3 : (gtI x0.lo x0.hi)
      · replace h3 := hid h3
        -- region 7
        go_upto_region 7 with fail
        refine lin_begin (St w [⟨w.heap.size, [some (.int .i64 (ti (x0.lo))), some (.int .i64 (ti (x0.hi)))], 38⟩, ⟨w.heap.size + 1, [some (.int .i64 (ti (x1.lo))), some (.int .i64 (ti (x1.hi)))], 38⟩, ⟨w.heap.size + 2, [some (.int .i64 0), some (.int .i64 0)], 38⟩]) rfl HS.out ?_
        refine lin_val (i := 0) (v := .agg #[.int .i64 (ti (x0.lo)), .int .i64 (ti (x0.hi))]) rfl rfl (by rfl) (by intro x hx; have f0 := hx.load 0 0 rfl rfl; have f1 := hx.load 0 1 rfl rfl; go_simp; (first | done | exact rfl)) ?_
        simp only [List.set_cons_succ, List.set_cons_zero]
        refine lin_store (i := 1) (St w [⟨w.heap.size, [some (.int .i64 (ti (x0.lo))), some (.int .i64 (ti (x0.hi)))], 38⟩, ⟨w.heap.size + 1, [some (.int .i64 (ti (x1.lo))), some (.int .i64 (ti (x1.hi)))], 38⟩, ⟨w.heap.size + 2, [some (.int .i64 (ti (x0.lo))), some (.int .i64 (ti (x0.hi)))], 38⟩]) rfl rfl (by rfl) (fun x => ((x.setCell ⟨w.heap.size + 2, 0, none⟩ (.int .i64 (ti (x0.lo)))).setCell ⟨w.heap.size + 2, 1, none⟩ (.int .i64 (ti (x0.hi))))) (by intro x hx; obtain ⟨u0, z0⟩ := hx.has 2 0 rfl (by simp); have q0 := hx.soft 2 0 rfl; obtain ⟨u1, z1⟩ := hx.has 2 1 rfl (by simp); have q1 := hx.soft 2 1 rfl; go_simp; (first | done | rfl)) (fun x hx => ((hx.put 2 0 (.int .i64 (ti (x0.lo))) rfl).put 2 1 (.int .i64 (ti (x0.hi))) rfl)) ?_
        refine lin_val (i := 2) (v := .bool true) rfl rfl (by rfl) (by intro x hx; go_simp; (first | done | exact rfl)) ?_
        simp only [List.set_cons_succ, List.set_cons_zero]
        refine lin_done ?_
        intro W4 hx
        replace HS := hid hx
        clear hx
        go_wp2
        have r0 := HS.out.load 2 0 rfl rfl
        have r1 := HS.out.load 2 1 rfl rfl
        have HF : ref_Smeet x0 x1 = (x0, true) := by
          unfold ref_Smeet
          rw [cond_f h1.out, cond_f h2.out, cond_f h3.out]
        exact bodyPost_ret (v := .tuple #[.agg #[.int .i64 (ti (x0.lo)), .int .i64 (ti (x0.hi))], .bool true]) (by simp [results, Try.results49, go_sem, r0, r1]) rfl ⟨(by first | (rw [HF]; done) | (rw [HF]; rfl)), HS.out.below⟩
      · replace h3 := hid h3
        -- region 6
        go_upto_region 6 with fail
        refine lin_begin (St w [⟨w.heap.size, [some (.int .i64 (ti (x0.lo))), some (.int .i64 (ti (x0.hi)))], 38⟩, ⟨w.heap.size + 1, [some (.int .i64 (ti (x1.lo))), some (.int .i64 (ti (x1.hi)))], 38⟩, ⟨w.heap.size + 2, [some (.int .i64 0), some (.int .i64 0)], 38⟩]) rfl HS.out ?_
        refine lin_val (i := 0) (v := .agg #[.int .i64 0, .int .i64 0]) rfl rfl (by rfl) (by intro x hx; go_simp; (first | done | exact rfl)) ?_
        simp only [List.set_cons_succ, List.set_cons_zero]
        refine lin_store (i := 1) (St w [⟨w.heap.size, [some (.int .i64 (ti (x0.lo))), some (.int .i64 (ti (x0.hi)))], 38⟩, ⟨w.heap.size + 1, [some (.int .i64 (ti (x1.lo))), some (.int .i64 (ti (x1.hi)))], 38⟩, ⟨w.heap.size + 2, [some (.int .i64 0), some (.int .i64 0)], 38⟩]) rfl rfl (by rfl) (fun x => ((x.setCell ⟨w.heap.size + 2, 0, none⟩ (.int .i64 0)).setCell ⟨w.heap.size + 2, 1, none⟩ (.int .i64 0))) (by intro x hx; obtain ⟨u0, z0⟩ := hx.has 2 0 rfl (by simp); have q0 := hx.soft 2 0 rfl; obtain ⟨u1, z1⟩ := hx.has 2 1 rfl (by simp); have q1 := hx.soft 2 1 rfl; go_simp; (first | done | rfl)) (fun x hx => ((hx.put 2 0 (.int .i64 0) rfl).put 2 1 (.int .i64 0) rfl)) ?_
        refine lin_val (i := 2) (v := .bool false) rfl rfl (by rfl) (by intro x hx; go_simp; (first | done | exact rfl)) ?_
        simp only [List.set_cons_succ, List.set_cons_zero]
        refine lin_done ?_
        intro W4 hx
        replace HS := hid hx
        clear hx
        go_wp2
        have r0 := HS.out.load 2 0 rfl rfl
        have r1 := HS.out.load 2 1 rfl rfl
        have HF : ref_Smeet x0 x1 = (P.mk 0#64 0#64, false) := by
          unfold ref_Smeet
          rw [cond_f h1.out, cond_f h2.out, cond_t h3.out]
        exact bodyPost_ret (v := .tuple #[.agg #[.int .i64 0, .int .i64 0], .bool false]) (by simp [results, Try.results49, go_sem, r0, r1]) rfl ⟨(by first | (rw [HF]; done) | (rw [HF]; rfl)), HS.out.below⟩
    · replace h2 := hid h2
      -- region 4
      go_upto_region 4 with fail
      refine lin_begin (St w [⟨w.heap.size, [some (.int .i64 (ti (x0.lo))), some (.int .i64 (ti (x0.hi)))], 38⟩, ⟨w.heap.size + 1, [some (.int .i64 (ti (x1.lo))), some (.int .i64 (ti (x1.hi)))], 38⟩, ⟨w.heap.size + 2, [some (.int .i64 0), some (.int .i64 0)], 38⟩]) rfl HS.out ?_
      refine lin_val (i := 0) (v := .pointer (some ⟨w.heap.size + 1, 1, none⟩)) rfl rfl (by rfl) (by intro x hx; go_simp; (first | done | exact rfl)) ?_
      simp only [List.set_cons_succ, List.set_cons_zero]
      refine lin_val (i := 1) (v := .int .i64 (ti (x1.hi))) rfl rfl (by rfl) (by intro x hx; have f0 := hx.load 1 1 rfl rfl; go_simp; (first | done | exact rfl)) ?_
      simp only [List.set_cons_succ, List.set_cons_zero]
      refine lin_val (i := 2) (v := .pointer (some ⟨w.heap.size, 1, none⟩)) rfl rfl (by rfl) (by intro x hx; go_simp; (first | done | exact rfl)) ?_
      simp only [List.set_cons_succ, List.set_cons_zero]
      refine lin_store (i := 3) (St w [⟨w.heap.size, [some (.int .i64 (ti (x0.lo))), some (.int .i64 (ti (x1.hi)))], 38⟩, ⟨w.heap.size + 1, [some (.int .i64 (ti (x1.lo))), some (.int .i64 (ti (x1.hi)))], 38⟩, ⟨w.heap.size + 2, [some (.int .i64 0), some (.int .i64 0)], 38⟩]) rfl rfl (by rfl) (fun x => (x.setCell ⟨w.heap.size, 1, none⟩ (.int .i64 (ti (x1.hi))))) (by intro x hx; obtain ⟨u0, z0⟩ := hx.has 0 1 rfl (by simp); have q0 := hx.soft 0 1 rfl; go_simp; (first | done | rfl)) (fun x hx => (hx.put 0 1 (.int .i64 (ti (x1.hi))) rfl)) ?_
      refine lin_done ?_
      intro W3 hx
      replace HS := hid hx
      clear hx
      -- region 5
      go_upto_region 5 with fail
      refine lin_begin (St w [⟨w.heap.size, [some (.int .i64 (ti (x0.lo))), some (.int .i64 (ti (x1.hi)))], 38⟩, ⟨w.heap.size + 1, [some (.int .i64 (ti (x1.lo))), some (.int .i64 (ti (x1.hi)))], 38⟩, ⟨w.heap.size + 2, [some (.int .i64 0), some (.int .i64 0)], 38⟩]) rfl HS.out ?_
      refine lin_val (i := 0) (v := .pointer (some ⟨w.heap.size, 0, none⟩)) rfl rfl (by rfl) (by intro x hx; go_simp; (first | done | exact rfl)) ?_
      simp only [List.set_cons_succ, List.set_cons_zero]
      refine lin_val (i := 1) (v := .int .i64 (ti (x0.lo))) rfl rfl (by rfl) (by intro x hx; have f0 := hx.load 0 0 rfl rfl; go_simp; (first | done | exact rfl)) ?_
      simp only [List.set_cons_succ, List.set_cons_zero]
      refine lin_val (i := 2) (v := .pointer (some ⟨w.heap.size, 1, none⟩)) rfl rfl (by rfl) (by intro x hx; go_simp; (first | done | exact rfl)) ?_
      simp only [List.set_cons_succ, List.set_cons_zero]
      refine lin_val (i := 3) (v := .int .i64 (ti (x1.hi))) rfl rfl (by rfl) (by intro x hx; have f0 := hx.load 0 1 rfl rfl; go_simp; (first | done | exact rfl)) ?_
      simp only [List.set_cons_succ, List.set_cons_zero]
      refine lin_val (i := 4) (v := .bool (gtI x0.lo x1.hi)) rfl rfl (by rfl) (by intro x hx; go_simp; (first | done | exact gtIT x0.lo x1.hi | exact congrArg _ (gtIT x0.lo x1.hi) | (rw [gtIT x0.lo x1.hi]; done) | (rw [gtIT x0.lo x1.hi]; rfl))) ?_
      simp only [List.set_cons_succ, List.set_cons_zero]
      refine lin_done ?_
      intro W4 hx
      replace HS := hid hx
      clear hx
      cases h3 : (gtI x0.lo x1.hi)
      · replace h3 := hid h3
        -- region 7
        go_upto_region 7 with fail
        refine lin_begin (St w [⟨w.heap.size, [some (.int .i64 (ti (x0.lo))), some (.int .i64 (ti (x1.hi)))], 38⟩, ⟨w.heap.size + 1, [some (.int .i64 (ti (x1.lo))), some (.int .i64 (ti (x1.hi)))], 38⟩, ⟨w.heap.size + 2, [some (.int .i64 0), some (.int .i64 0)], 38⟩]) rfl HS.out ?_
        refine lin_val (i := 0) (v := .agg #[.int .i64 (ti (x0.lo)), .int .i64 (ti (x1.hi))]) rfl rfl (by rfl) (by intro x hx; have f0 := hx.load 0 0 rfl rfl; have f1 := hx.load 0 1 rfl rfl; go_simp; (first | done | exact rfl)) ?_
        simp only [List.set_cons_succ, List.set_cons_zero]
        refine lin_store (i := 1) (St w [⟨w.heap.size, [some (.int .i64 (ti (x0.lo))), some (.int .i64 (ti (x1.hi)))], 38⟩, ⟨w.heap.size + 1, [some (.int .i64 (ti (x1.lo))), some (.int .i64 (ti (x1.hi)))], 38⟩, ⟨w.heap.size + 2, [some (.int .i64 (ti (x0.lo))), some (.int .i64 (ti (x1.hi)))], 38⟩]) rfl rfl (by rfl) (fun x => ((x.setCell ⟨w.heap.size + 2, 0, none⟩ (.int .i64 (ti (x0.lo)))).setCell ⟨w.heap.size + 2, 1, none⟩ (.int .i64 (ti (x1.hi))))) (by intro x hx; obtain ⟨u0, z0⟩ := hx.has 2 0 rfl (by simp); have q0 := hx.soft 2 0 rfl; obtain ⟨u1, z1⟩ := hx.has 2 1 rfl (by simp); have q1 := hx.soft 2 1 rfl; go_simp; (first | done | rfl)) (fun x hx => ((hx.put 2 0 (.int .i64 (ti (x0.lo))) rfl).put 2 1 (.int .i64 (ti (x1.hi))) rfl)) ?_
        refine lin_val (i := 2) (v := .bool true) rfl rfl (by rfl) (by intro x hx; go_simp; (first | done | exact rfl)) ?_
        simp only [List.set_cons_succ, List.set_cons_zero]
        refine lin_done ?_
        intro W5 hx
        replace HS := hid hx
        clear hx
        go_wp2
        have r0 := HS.out.load 2 0 rfl rfl
        have r1 := HS.out.load 2 1 rfl rfl
        have HF : ref_Smeet x0 x1 = (P.mk x0.lo x1.hi, true) := by
          unfold ref_Smeet
          rw [cond_f h1.out, cond_t h2.out, cond_f h3.out]
        exact bodyPost_ret (v := .tuple #[.agg #[.int .i64 (ti (x0.lo)), .int .i64 (ti (x1.hi))], .bool true]) (by simp [results, Try.results49, go_sem, r0, r1]) rfl ⟨(by first | (rw [HF]; done) | (rw [HF]; rfl)), HS.out.below⟩
      · replace h3 := hid h3
        -- region 6
        go_upto_region 6 with fail
        refine lin_begin (St w [⟨w.heap.size, [some (.int .i64 (ti (x0.lo))), some (.int .i64 (ti (x1.hi)))], 38⟩, ⟨w.heap.size + 1, [some (.int .i64 (ti (x1.lo))), some (.int .i64 (ti (x1.hi)))], 38⟩, ⟨w.heap.size + 2, [some (.int .i64 0), some (.int .i64 0)], 38⟩]) rfl HS.out ?_
        refine lin_val (i := 0) (v := .agg #[.int .i64 0, .int .i64 0]) rfl rfl (by rfl) (by intro x hx; go_simp; (first | done | exact rfl)) ?_
        simp only [List.set_cons_succ, List.set_cons_zero]
        refine lin_store (i := 1) (St w [⟨w.heap.size, [some (.int .i64 (ti (x0.lo))), some (.int .i64 (ti (x1.hi)))], 38⟩, ⟨w.heap.size + 1, [some (.int .i64 (ti (x1.lo))), some (.int .i64 (ti (x1.hi)))], 38⟩, ⟨w.heap.size + 2, [some (.int .i64 0), some (.int .i64 0)], 38⟩]) rfl rfl (by rfl) (fun x => ((x.setCell ⟨w.heap.size + 2, 0, none⟩ (.int .i64 0)).setCell ⟨w.heap.size + 2, 1, none⟩ (.int .i64 0))) (by intro x hx; obtain ⟨u0, z0⟩ := hx.has 2 0 rfl (by simp); have q0 := hx.soft 2 0 rfl; obtain ⟨u1, z1⟩ := hx.has 2 1 rfl (by simp); have q1 := hx.soft 2 1 rfl; go_simp; (first | done | rfl)) (fun x hx => ((hx.put 2 0 (.int .i64 0) rfl).put 2 1 (.int .i64 0) rfl)) ?_
        refine lin_val (i := 2) (v := .bool false) rfl rfl (by rfl) (by intro x hx; go_simp; (first | done | exact rfl)) ?_
        simp only [List.set_cons_succ, List.set_cons_zero]
        refine lin_done ?_
        intro W5 hx
        replace HS := hid hx
        clear hx
        go_wp2
        have r0 := HS.out.load 2 0 rfl rfl
        have r1 := HS.out.load 2 1 rfl rfl
        have HF : ref_Smeet x0 x1 = (P.mk 0#64 0#64, false) := by
          unfold ref_Smeet
          rw [cond_f h1.out, cond_t h2.out, cond_t h3.out]
        exact bodyPost_ret (v := .tuple #[.agg #[.int .i64 0, .int .i64 0], .bool false]) (by simp [results, Try.results49, go_sem, r0, r1]) rfl ⟨(by first | (rw [HF]; done) | (rw [HF]; rfl)), HS.out.below⟩
  · replace h1 := hid h1
    -- region 2
    go_upto_region 2 with fail
    refine lin_begin (St w [⟨w.heap.size, [some (.int .i64 (ti (x0.lo))), some (.int .i64 (ti (x0.hi)))], 38⟩, ⟨w.heap.size + 1, [some (.int .i64 (ti (x1.lo))), some (.int .i64 (ti (x1.hi)))], 38⟩, ⟨w.heap.size + 2, [some (.int .i64 0), some (.int .i64 0)], 38⟩]) rfl HS.out ?_
    refine lin_val (i := 0) (v := .pointer (some ⟨w.heap.size + 1, 0, none⟩)) rfl rfl (by rfl) (by intro x hx; go_simp; (first | done | exact rfl)) ?_
    simp only [List.set_cons_succ, List.set_cons_zero]
    refine lin_val (i := 1) (v := .int .i64 (ti (x1.lo))) rfl rfl (by rfl) (by intro x hx; have f0 := hx.load 1 0 rfl rfl; go_simp; (first | done | exact rfl)) ?_
    simp only [List.set_cons_succ, List.set_cons_zero]
    refine lin_val (i := 2) (v := .pointer (some ⟨w.heap.size, 0, none⟩)) rfl rfl (by rfl) (by intro x hx; go_simp; (first | done | exact rfl)) ?_
    simp only [List.set_cons_succ, List.set_cons_zero]
    refine lin_store (i := 3) (St w [⟨w.heap.size, [some (.int .i64 (ti (x1.lo))), some (.int .i64 (ti (x0.hi)))], 38⟩, ⟨w.heap.size + 1, [some (.int .i64 (ti (x1.lo))), some (.int .i64 (ti (x1.hi)))], 38⟩, ⟨w.heap.size + 2, [some (.int .i64 0), some (.int .i64 0)], 38⟩]) rfl rfl (by rfl) (fun x => (x.setCell ⟨w.heap.size, 0, none⟩ (.int .i64 (ti (x1.lo))))) (by intro x hx; obtain ⟨u0, z0⟩ := hx.has 0 0 rfl (by simp); have q0 := hx.soft 0 0 rfl; go_simp; (first | done | rfl)) (fun x hx => (hx.put 0 0 (.int .i64 (ti (x1.lo))) rfl)) ?_
    refine lin_done ?_
    intro W2 hx
    replace HS := hid hx
    clear hx
    -- region 3
    go_upto_region 3 with fail
    refine lin_begin (St w [⟨w.heap.size, [some (.int .i64 (ti (x1.lo))), some (.int .i64 (ti (x0.hi)))], 38⟩, ⟨w.heap.size + 1, [some (.int .i64 (ti (x1.lo))), some (.int .i64 (ti (x1.hi)))], 38⟩, ⟨w.heap.size + 2, [some (.int .i64 0), some (.int .i64 0)], 38⟩]) rfl HS.out ?_
    refine lin_val (i := 0) (v := .pointer (some ⟨w.heap.size + 1, 1, none⟩)) rfl rfl (by rfl) (by intro x hx; go_simp; (first | done | exact rfl)) ?_
    simp only [List.set_cons_succ, List.set_cons_zero]
    refine lin_val (i := 1) (v := .int .i64 (ti (x1.hi))) rfl rfl (by rfl) (by intro x hx; have f0 := hx.load 1 1 rfl rfl; go_simp; (first | done | exact rfl)) ?_
    simp only [List.set_cons_succ, List.set_cons_zero]
    refine lin_val (i := 2) (v := .pointer (some ⟨w.heap.size, 1, none⟩)) rfl rfl (by rfl) (by intro x hx; go_simp; (first | done | exact rfl)) ?_
    simp only [List.set_cons_succ, List.set_cons_zero]
    refine lin_val (i := 3) (v := .int .i64 (ti (x0.hi))) rfl rfl (by rfl) (by intro x hx; have f0 := hx.load 0 1 rfl rfl; go_simp; (first | done | exact rfl)) ?_
    simp only [List.set_cons_succ, List.set_cons_zero]
    refine lin_val (i := 4) (v := .bool (ltI x1.hi x0.hi)) rfl rfl (by rfl) (by intro x hx; go_simp; (first | done | exact ltIT x1.hi x0.hi | exact congrArg _ (ltIT x1.hi x0.hi) | (rw [ltIT x1.hi x0.hi]; done) | (rw [ltIT x1.hi x0.hi]; rfl))) ?_
    simp only [List.set_cons_succ, List.set_cons_zero]
    refine lin_done ?_
    intro W3 hx
    replace HS := hid hx
    clear hx
    cases h2 : (ltI x1.hi x0.hi)
    · replace h2 := hid h2
      -- region 5
      go_upto_region 5 with fail
      refine lin_begin (St w [⟨w.heap.size, [some (.int .i64 (ti (x1.lo))), some (.int .i64 (ti (x0.hi)))], 38⟩, ⟨w.heap.size + 1, [some (.int .i64 (ti (x1.lo))), some (.int .i64 (ti (x1.hi)))], 38⟩, ⟨w.heap.size + 2, [some (.int .i64 0), some (.int .i64 0)], 38⟩]) rfl HS.out ?_
      refine lin_val (i := 0) (v := .pointer (some ⟨w.heap.size, 0, none⟩)) rfl rfl (by rfl) (by intro x hx; go_simp; (first | done | exact rfl)) ?_
      simp only [List.set_cons_succ, List.set_cons_zero]
      refine lin_val (i := 1) (v := .int .i64 (ti (x1.lo))) rfl rfl (by rfl) (by intro x hx; have f0 := hx.load 0 0 rfl rfl; go_simp; (first | done | exact rfl)) ?_
      simp only [List.set_cons_succ, List.set_cons_zero]
      refine lin_val (i := 2) (v := .pointer (some ⟨w.heap.size, 1, none⟩)) rfl rfl (by rfl) (by intro x hx; go_simp; (first | done | exact rfl)) ?_
      simp only [List.set_cons_succ, List.set_cons_zero]
      refine lin_val (i := 3) (v := .int .i64 (ti (x0.hi))) rfl rfl (by rfl) (by intro x hx; have f0 := hx.load 0 1 rfl rfl; go_simp; (first | done | exact rfl)) ?_
      simp only [List.set_cons_succ, List.set_cons_zero]
      refine lin_val (i := 4) (v := .bool (gtI x1.lo x0.hi)) rfl rfl (by rfl) (by intro x hx; go_simp; (first | done | exact gtIT x1.lo x0.hi | exact congrArg _ (gtIT x1.lo x0.hi) | (rw [gtIT x1.lo x0.hi]; done) | (rw [gtIT x1.lo x0.hi]; rfl))) ?_
      simp only [List.set_cons_succ, List.set_cons_zero]
      refine lin_done ?_
      intro W4 hx
      replace HS := hid hx
      clear hx
      cases h3 : (gtI x1.lo x0.hi)
      · replace h3 := hid h3
        -- region 7
        go_upto_region 7 with fail
        refine lin_begin (St w [⟨w.heap.size, [some (.int .i64 (ti (x1.lo))), some (.int .i64 (ti (x0.hi)))], 38⟩, ⟨w.heap.size + 1, [some (.int .i64 (ti (x1.lo))), some (.int .i64 (ti (x1.hi)))], 38⟩, ⟨w.heap.size + 2, [some (.int .i64 0), some (.int .i64 0)], 38⟩]) rfl HS.out ?_
        refine lin_val (i := 0) (v := .agg #[.int .i64 (ti (x1.lo)), .int .i64 (ti (x0.hi))]) rfl rfl (by rfl) (by intro x hx; have f0 := hx.load 0 0 rfl rfl; have f1 := hx.load 0 1 rfl rfl; go_simp; (first | done | exact rfl)) ?_
        simp only [List.set_cons_succ, List.set_cons_zero]
        refine lin_store (i := 1) (St w [⟨w.heap.size, [some (.int .i64 (ti (x1.lo))), some (.int .i64 (ti (x0.hi)))], 38⟩, ⟨w.heap.size + 1, [some (.int .i64 (ti (x1.lo))), some (.int .i64 (ti (x1.hi)))], 38⟩, ⟨w.heap.size + 2, [some (.int .i64 (ti (x1.lo))), some (.int .i64 (ti (x0.hi)))], 38⟩]) rfl rfl (by rfl) (fun x => ((x.setCell ⟨w.heap.size + 2, 0, none⟩ (.int .i64 (ti (x1.lo)))).setCell ⟨w.heap.size + 2, 1, none⟩ (.int .i64 (ti (x0.hi))))) (by intro x hx; obtain ⟨u0, z0⟩ := hx.has 2 0 rfl (by simp); have q0 := hx.soft 2 0 rfl; obtain ⟨u1, z1⟩ := hx.has 2 1 rfl (by simp); have q1 := hx.soft 2 1 rfl; go_simp; (first | done | rfl)) (fun x hx => ((hx.put 2 0 (.int .i64 (ti (x1.lo))) rfl).put 2 1 (.int .i64 (ti (x0.hi))) rfl)) ?_
        refine lin_val (i := 2) (v := .bool true) rfl rfl (by rfl) (by intro x hx; go_simp; (first | done | exact rfl)) ?_
        simp only [List.set_cons_succ, List.set_cons_zero]
        refine lin_done ?_
        intro W5 hx
        replace HS := hid hx
        clear hx
        go_wp2
        have r0 := HS.out.load 2 0 rfl rfl
        have r1 := HS.out.load 2 1 rfl rfl
        have HF : ref_Smeet x0 x1 = (P.mk x1.lo x0.hi, true) := by
          unfold ref_Smeet
          rw [cond_t h1.out, cond_f h2.out, cond_f h3.out]
        exact bodyPost_ret (v := .tuple #[.agg #[.int .i64 (ti (x1.lo)), .int .i64 (ti (x0.hi))], .bool true]) (by simp [results, Try.results49, go_sem, r0, r1]) rfl ⟨(by first | (rw [HF]; done) | (rw [HF]; rfl)), HS.out.below⟩
      · replace h3 := hid h3
        -- region 6
        go_upto_region 6 with fail
        refine lin_begin (St w [⟨w.heap.size, [some (.int .i64 (ti (x1.lo))), some (.int .i64 (ti (x0.hi)))], 38⟩, ⟨w.heap.size + 1, [some (.int .i64 (ti (x1.lo))), some (.int .i64 (ti (x1.hi)))], 38⟩, ⟨w.heap.size + 2, [some (.int .i64 0), some (.int .i64 0)], 38⟩]) rfl HS.out ?_
        refine lin_val (i := 0) (v := .agg #[.int .i64 0, .int .i64 0]) rfl rfl (by rfl) (by intro x hx; go_simp; (first | done | exact rfl)) ?_
        simp only [List.set_cons_succ, List.set_cons_zero]
        refine lin_store (i := 1) (St w [⟨w.heap.size, [some (.int .i64 (ti (x1.lo))), some (.int .i64 (ti (x0.hi)))], 38⟩, ⟨w.heap.size + 1, [some (.int .i64 (ti (x1.lo))), some (.int .i64 (ti (x1.hi)))], 38⟩, ⟨w.heap.size + 2, [some (.int .i64 0), some (.int .i64 0)], 38⟩]) rfl rfl (by rfl) (fun x => ((x.setCell ⟨w.heap.size + 2, 0, none⟩ (.int .i64 0)).setCell ⟨w.heap.size + 2, 1, none⟩ (.int .i64 0))) (by intro x hx; obtain ⟨u0, z0⟩ := hx.has 2 0 rfl (by simp); have q0 := hx.soft 2 0 rfl; obtain ⟨u1, z1⟩ := hx.has 2 1 rfl (by simp); have q1 := hx.soft 2 1 rfl; go_simp; (first | done | rfl)) (fun x hx => ((hx.put 2 0 (.int .i64 0) rfl).put 2 1 (.int .i64 0) rfl)) ?_
        refine lin_val (i := 2) (v := .bool false) rfl rfl (by rfl) (by intro x hx; go_simp; (first | done | exact rfl)) ?_
        simp only [List.set_cons_succ, List.set_cons_zero]
        refine lin_done ?_
        intro W5 hx
        replace HS := hid hx
        clear hx
        go_wp2
        have r0 := HS.out.load 2 0 rfl rfl
        have r1 := HS.out.load 2 1 rfl rfl
        have HF : ref_Smeet x0 x1 = (P.mk 0#64 0#64, false) := by
          unfold ref_Smeet
          rw [cond_t h1.out, cond_f h2.out, cond_t h3.out]
        exact bodyPost_ret (v := .tuple #[.agg #[.int .i64 0, .int .i64 0], .bool false]) (by simp [results, Try.results49, go_sem, r0, r1]) rfl ⟨(by first | (rw [HF]; done) | (rw [HF]; rfl)), HS.out.below⟩
    · replace h2 := hid h2
      -- region 4
      go_upto_region 4 with fail
      refine lin_begin (St w [⟨w.heap.size, [some (.int .i64 (ti (x1.lo))), some (.int .i64 (ti (x0.hi)))], 38⟩, ⟨w.heap.size + 1, [some (.int .i64 (ti (x1.lo))), some (.int .i64 (ti (x1.hi)))], 38⟩, ⟨w.heap.size + 2, [some (.int .i64 0), some (.int .i64 0)], 38⟩]) rfl HS.out ?_
      refine lin_val (i := 0) (v := .pointer (some ⟨w.heap.size + 1, 1, none⟩)) rfl rfl (by rfl) (by intro x hx; go_simp; (first | done | exact rfl)) ?_
      simp only [List.set_cons_succ, List.set_cons_zero]
      refine lin_val (i := 1) (v := .int .i64 (ti (x1.hi))) rfl rfl (by rfl) (by intro x hx; have f0 := hx.load 1 1 rfl rfl; go_simp; (first | done | exact rfl)) ?_
      simp only [List.set_cons_succ, List.set_cons_zero]
      refine lin_val (i := 2) (v := .pointer (some ⟨w.heap.size, 1, none⟩)) rfl rfl (by rfl) (by intro x hx; go_simp; (first | done | exact rfl)) ?_
      simp only [List.set_cons_succ, List.set_cons_zero]
      refine lin_store (i := 3) (St w [⟨w.heap.size, [some (.int .i64 (ti (x1.lo))), some (.int .i64 (ti (x1.hi)))], 38⟩, ⟨w.heap.size + 1, [some (.int .i64 (ti (x1.lo))), some (.int .i64 (ti (x1.hi)))], 38⟩, ⟨w.heap.size + 2, [some (.int .i64 0), some (.int .i64 0)], 38⟩]) rfl rfl (by rfl) (fun x => (x.setCell ⟨w.heap.size, 1, none⟩ (.int .i64 (ti (x1.hi))))) (by intro x hx; obtain ⟨u0, z0⟩ := hx.has 0 1 rfl (by simp); have q0 := hx.soft 0 1 rfl; go_simp; (first | done | rfl)) (fun x hx => (hx.put 0 1 (.int .i64 (ti (x1.hi))) rfl)) ?_
      refine lin_done ?_
      intro W4 hx
      replace HS := hid hx
      clear hx
      -- region 5
      go_upto_region 5 with fail
      refine lin_begin (St w [⟨w.heap.size, [some (.int .i64 (ti (x1.lo))), some (.int .i64 (ti (x1.hi)))], 38⟩, ⟨w.heap.size + 1, [some (.int .i64 (ti (x1.lo))), some (.int .i64 (ti (x1.hi)))], 38⟩, ⟨w.heap.size + 2, [some (.int .i64 0), some (.int .i64 0)], 38⟩]) rfl HS.out ?_
      refine lin_val (i := 0) (v := .pointer (some ⟨w.heap.size, 0, none⟩)) rfl rfl (by rfl) (by intro x hx; go_simp; (first | done | exact rfl)) ?_
      simp only [List.set_cons_succ, List.set_cons_zero]
      refine lin_val (i := 1) (v := .int .i64 (ti (x1.lo))) rfl rfl (by rfl) (by intro x hx; have f0 := hx.load 0 0 rfl rfl; go_simp; (first | done | exact rfl)) ?_
      simp only [List.set_cons_succ, List.set_cons_zero]
      refine lin_val (i := 2) (v := .pointer (some ⟨w.heap.size, 1, none⟩)) rfl rfl (by rfl) (by intro x hx; go_simp; (first | done | exact rfl)) ?_
      simp only [List.set_cons_succ, List.set_cons_zero]
      refine lin_val (i := 3) (v := .int .i64 (ti (x1.hi))) rfl rfl (by rfl) (by intro x hx; have f0 := hx.load 0 1 rfl rfl; go_simp; (first | done | exact rfl)) ?_
      simp only [List.set_cons_succ, List.set_cons_zero]
      refine lin_val (i := 4) (v := .bool (gtI x1.lo x1.hi)) rfl rfl (by rfl) (by intro x hx; go_simp; (first | done | exact gtIT x1.lo x1.hi | exact congrArg _ (gtIT x1.lo x1.hi) | (rw [gtIT x1.lo x1.hi]; done) | (rw [gtIT x1.lo x1.hi]; rfl))) ?_
      simp only [List.set_cons_succ, List.set_cons_zero]
      refine lin_done ?_
      intro W5 hx
      replace HS := hid hx
      clear hx
      cases h3 : (gtI x1.lo x1.hi)
      · replace h3 := hid h3
        -- region 7
        go_upto_region 7 with fail
        refine lin_begin (St w [⟨w.heap.size, [some (.int .i64 (ti (x1.lo))), some (.int .i64 (ti (x1.hi)))], 38⟩, ⟨w.heap.size + 1, [some (.int .i64 (ti (x1.lo))), some (.int .i64 (ti (x1.hi)))], 38⟩, ⟨w.heap.size + 2, [some (.int .i64 0), some (.int .i64 0)], 38⟩]) rfl HS.out ?_
        refine lin_val (i := 0) (v := .agg #[.int .i64 (ti (x1.lo)), .int .i64 (ti (x1.hi))]) rfl rfl (by rfl) (by intro x hx; have f0 := hx.load 0 0 rfl rfl; have f1 := hx.load 0 1 rfl rfl; go_simp; (first | done | exact rfl)) ?_
        simp only [List.set_cons_succ, List.set_cons_zero]
        refine lin_store (i := 1) (St w [⟨w.heap.size, [some (.int .i64 (ti (x1.lo))), some (.int .i64 (ti (x1.hi)))], 38⟩, ⟨w.heap.size + 1, [some (.int .i64 (ti (x1.lo))), some (.int .i64 (ti (x1.hi)))], 38⟩, ⟨w.heap.size + 2, [some (.int .i64 (ti (x1.lo))), some (.int .i64 (ti (x1.hi)))], 38⟩]) rfl rfl (by rfl) (fun x => ((x.setCell ⟨w.heap.size + 2, 0, none⟩ (.int .i64 (ti (x1.lo)))).setCell ⟨w.heap.size + 2, 1, none⟩ (.int .i64 (ti (x1.hi))))) (by intro x hx; obtain ⟨u0, z0⟩ := hx.has 2 0 rfl (by simp); have q0 := hx.soft 2 0 rfl; obtain ⟨u1, z1⟩ := hx.has 2 1 rfl (by simp); have q1 := hx.soft 2 1 rfl; go_simp; (first | done | rfl)) (fun x hx => ((hx.put 2 0 (.int .i64 (ti (x1.lo))) rfl).put 2 1 (.int .i64 (ti (x1.hi))) rfl)) ?_
        refine lin_val (i := 2) (v := .bool true) rfl rfl (by rfl) (by intro x hx; go_simp; (first | done | exact rfl)) ?_
        simp only [List.set_cons_succ, List.set_cons_zero]
        refine lin_done ?_
        intro W6 hx
        replace HS := hid hx
        clear hx
        go_wp2
        have r0 := HS.out.load 2 0 rfl rfl
        have r1 := HS.out.load 2 1 rfl rfl
        have HF : ref_Smeet x0 x1 = (x1, true) := by
          unfold ref_Smeet
          rw [cond_t h1.out, cond_t h2.out, cond_f h3.out]
        exact bodyPost_ret (v := .tuple #[.agg #[.int .i64 (ti (x1.lo)), .int .i64 (ti (x1.hi))], .bool true]) (by simp [results, Try.results49, go_sem, r0, r1]) rfl ⟨(by first | (rw [HF]; done) | (rw [HF]; rfl)), HS.out.below⟩
      · replace h3 := hid h3
        -- region 6
        go_upto_region 6 with fail
        refine lin_begin (St w [⟨w.heap.size, [some (.int .i64 (ti (x1.lo))), some (.int .i64 (ti (x1.hi)))], 38⟩, ⟨w.heap.size + 1, [some (.int .i64 (ti (x1.lo))), some (.int .i64 (ti (x1.hi)))], 38⟩, ⟨w.heap.size + 2, [some (.int .i64 0), some (.int .i64 0)], 38⟩]) rfl HS.out ?_
        refine lin_val (i := 0) (v := .agg #[.int .i64 0, .int .i64 0]) rfl rfl (by rfl) (by intro x hx; go_simp; (first | done | exact rfl)) ?_
        simp only [List.set_cons_succ, List.set_cons_zero]
        refine lin_store (i := 1) (St w [⟨w.heap.size, [some (.int .i64 (ti (x1.lo))), some (.int .i64 (ti (x1.hi)))], 38⟩, ⟨w.heap.size + 1, [some (.int .i64 (ti (x1.lo))), some (.int .i64 (ti (x1.hi)))], 38⟩, ⟨w.heap.size + 2, [some (.int .i64 0), some (.int .i64 0)], 38⟩]) rfl rfl (by rfl) (fun x => ((x.setCell ⟨w.heap.size + 2, 0, none⟩ (.int .i64 0)).setCell ⟨w.heap.size + 2, 1, none⟩ (.int .i64 0))) (by intro x hx; obtain ⟨u0, z0⟩ := hx.has 2 0 rfl (by simp); have q0 := hx.soft 2 0 rfl; obtain ⟨u1, z1⟩ := hx.has 2 1 rfl (by simp); have q1 := hx.soft 2 1 rfl; go_simp; (first | done | rfl)) (fun x hx => ((hx.put 2 0 (.int .i64 0) rfl).put 2 1 (.int .i64 0) rfl)) ?_
        refine lin_val (i := 2) (v := .bool false) rfl rfl (by rfl) (by intro x hx; go_simp; (first | done | exact rfl)) ?_
        simp only [List.set_cons_succ, List.set_cons_zero]
        refine lin_done ?_
        intro W6 hx
        replace HS := hid hx
        clear hx
        go_wp2
        have r0 := HS.out.load 2 0 rfl rfl
        have r1 := HS.out.load 2 1 rfl rfl
        have HF : ref_Smeet x0 x1 = (P.mk 0#64 0#64, false) := by
          unfold ref_Smeet
          rw [cond_t h1.out, cond_t h2.out, cond_t h3.out]
        exact bodyPost_ret (v := .tuple #[.agg #[.int .i64 0, .int .i64 0], .bool false]) (by simp [results, Try.results49, go_sem, r0, r1]) rfl ⟨(by first | (rw [HF]; done) | (rw [HF]; rfl)), HS.out.below⟩
set_option maxRecDepth 100000 in
set_option maxHeartbeats 1000000 in
theorem ref_sums_any (x0 : BitVec 64) (x1 : BitVec 64)  (w : World) :
    Calls Try.prog 90 #[.int .u64 (tn (x0)), .int .u64 (tn (x1))] w fun e w' => e = .returned (.bool ((leU x0 (18446744073709551615#64 - x1)))) ∧ Below w.heap.size w w' := by
  go_enter Try.func90, Try.ntmps90
  have HS := hid (st_nil w)
  -- region 1
  go_upto_region 1 with fail
  refine lin_begin (St w []) rfl HS.out ?_
  refine lin_val (i := 0) (v := .int .u64 (tn (x0))) rfl rfl (by rfl) (by intro x hx; go_simp; (first | done | exact rfl)) ?_
  simp only [List.set_cons_succ, List.set_cons_zero]
  refine lin_val (i := 1) (v := .int .u64 (tn (x1))) rfl rfl (by rfl) (by intro x hx; go_simp; (first | done | exact rfl)) ?_
  simp only [List.set_cons_succ, List.set_cons_zero]
  refine lin_val (i := 2) (v := .int .u64 (tn (18446744073709551615#64 - x1))) rfl rfl (by rfl) (by intro x hx; go_simp; (first | done | exact subUT 18446744073709551615#64 x1 | exact congrArg _ (subUT 18446744073709551615#64 x1) | (rw [subUT 18446744073709551615#64 x1]; done) | (rw [subUT 18446744073709551615#64 x1]; rfl))) ?_
  simp only [List.set_cons_succ, List.set_cons_zero]
  refine lin_val (i := 3) (v := .bool (leU x0 (18446744073709551615#64 - x1))) rfl rfl (by rfl) (by intro x hx; go_simp; (first | done | exact leUT x0 (18446744073709551615#64 - x1) | exact congrArg _ (leUT x0 (18446744073709551615#64 - x1)) | (rw [leUT x0 (18446744073709551615#64 - x1)]; done) | (rw [leUT x0 (18446744073709551615#64 - x1)]; rfl))) ?_
  simp only [List.set_cons_succ, List.set_cons_zero]
  refine lin_val (i := 4) (v := .bool (leU x0 (18446744073709551615#64 - x1))) rfl rfl (by rfl) (by intro x hx; go_simp; (first | done | exact rfl)) ?_
  simp only [List.set_cons_succ, List.set_cons_zero]
  refine lin_done ?_
  intro W1 hx
  replace HS := hid hx
  clear hx
  go_wp2
  exact bodyPost_ret (v := .bool (leU x0 (18446744073709551615#64 - x1))) (by simp [results, Try.results90, go_sem]) rfl ⟨rfl, HS.out.below⟩
def ref_Add (x0 : P) (x1 : P) : P :=
  bif ((leU x0.lo (18446744073709551615#64 - x1.lo)) != (leU x0.hi (18446744073709551615#64 - x1.hi))) then (P.mk 0#64 18446744073709551615#64) else (P.mk (x0.lo + x1.lo) (x0.hi + x1.hi))
set_option maxRecDepth 100000 in
set_option maxHeartbeats 1000000 in
theorem ref_Add_any (x0 : P) (x1 : P)  (w : World) :
    Calls Try.prog 26 #[.agg #[.int .u64 (tn (x0.lo)), .int .u64 (tn (x0.hi))], .agg #[.int .u64 (tn (x1.lo)), .int .u64 (tn (x1.hi))]] w fun e w' => e = .returned (.agg #[.int .u64 (tn ((ref_Add x0 x1).lo)), .int .u64 (tn ((ref_Add x0 x1).hi))]) ∧ Below w.heap.size w w' := by
  go_enter Try.func26, Try.ntmps26
  have HS := hid ((((st_nil w).alloc (k := w.heap.size) rfl [.int .u64 (tn (x0.lo)), .int .u64 (tn (x0.hi))] 24).alloc (k := w.heap.size + 1) (by simp) [.int .u64 (tn (x1.lo)), .int .u64 (tn (x1.hi))] 24).alloc (k := w.heap.size + 2) (by simp) [.int .u64 0, .int .u64 0] 24)
  -- region 1
  go_upto_region 1 with fail
  refine up_begin (St w [⟨w.heap.size, [some (.int .u64 (tn (x0.lo))), some (.int .u64 (tn (x0.hi)))], 24⟩, ⟨w.heap.size + 1, [some (.int .u64 (tn (x1.lo))), some (.int .u64 (tn (x1.hi)))], 24⟩, ⟨w.heap.size + 2, [some (.int .u64 0), some (.int .u64 0)], 24⟩]) 11 rfl (by kernel_rfl) (HS.out.drew) ?_
  refine take_val (i := 0) (v := .pointer (some ⟨w.heap.size, 0, none⟩)) (st_ups _ _) rfl rfl (by kernel_rfl) (fun _ _ _ h => h) (by rfl) (by intro x hx; go_simp; (first | done | exact rfl)) ?_
  simp only [List.set_cons_succ, List.set_cons_zero]
  refine take_val (i := 1) (v := .int .u64 (tn (x0.lo))) (st_ups _ _) rfl rfl (by kernel_rfl) (fun _ _ _ h => h) (by rfl) (by intro x hx; have f0 := hx.load 0 0 rfl rfl; go_simp; (first | done | exact rfl)) ?_
  simp only [List.set_cons_succ, List.set_cons_zero]
  refine take_val (i := 2) (v := .pointer (some ⟨w.heap.size + 1, 0, none⟩)) (st_ups _ _) rfl rfl (by kernel_rfl) (fun _ _ _ h => h) (by rfl) (by intro x hx; go_simp; (first | done | exact rfl)) ?_
  simp only [List.set_cons_succ, List.set_cons_zero]
  refine take_val (i := 3) (v := .int .u64 (tn (x1.lo))) (st_ups _ _) rfl rfl (by kernel_rfl) (fun _ _ _ h => h) (by rfl) (by intro x hx; have f0 := hx.load 1 0 rfl rfl; go_simp; (first | done | exact rfl)) ?_
  simp only [List.set_cons_succ, List.set_cons_zero]
  refine take_call (i := 4) (f := 90) (args := #[.int .u64 (tn (x0.lo)), .int .u64 (tn (x1.lo))]) (v := .bool (leU x0.lo (18446744073709551615#64 - x1.lo))) (st_ups _ _) rfl rfl (by kernel_rfl) (fun _ _ _ h => h) (by rfl) (fun x hx => by kernel_rfl) (by intro x hx; exact ref_sums_any x0.lo x1.lo _) ?_
  simp only [List.set_cons_succ, List.set_cons_zero]
  refine take_val (i := 5) (v := .pointer (some ⟨w.heap.size, 1, none⟩)) (st_ups _ _) rfl rfl (by kernel_rfl) (fun _ _ _ h => h) (by rfl) (by intro x hx; go_simp; (first | done | exact rfl)) ?_
  simp only [List.set_cons_succ, List.set_cons_zero]
  refine take_val (i := 6) (v := .int .u64 (tn (x0.hi))) (st_ups _ _) rfl rfl (by kernel_rfl) (fun _ _ _ h => h) (by rfl) (by intro x hx; have f0 := hx.load 0 1 rfl rfl; go_simp; (first | done | exact rfl)) ?_
  simp only [List.set_cons_succ, List.set_cons_zero]
  refine take_val (i := 7) (v := .pointer (some ⟨w.heap.size + 1, 1, none⟩)) (st_ups _ _) rfl rfl (by kernel_rfl) (fun _ _ _ h => h) (by rfl) (by intro x hx; go_simp; (first | done | exact rfl)) ?_
  simp only [List.set_cons_succ, List.set_cons_zero]
  refine take_val (i := 8) (v := .int .u64 (tn (x1.hi))) (st_ups _ _) rfl rfl (by kernel_rfl) (fun _ _ _ h => h) (by rfl) (by intro x hx; have f0 := hx.load 1 1 rfl rfl; go_simp; (first | done | exact rfl)) ?_
  simp only [List.set_cons_succ, List.set_cons_zero]
  refine take_call (i := 9) (f := 90) (args := #[.int .u64 (tn (x0.hi)), .int .u64 (tn (x1.hi))]) (v := .bool (leU x0.hi (18446744073709551615#64 - x1.hi))) (st_ups _ _) rfl rfl (by kernel_rfl) (fun _ _ _ h => h) (by rfl) (fun x hx => by kernel_rfl) (by intro x hx; exact ref_sums_any x0.hi x1.hi _) ?_
  simp only [List.set_cons_succ, List.set_cons_zero]
  refine take_val (i := 10) (v := .bool (((leU x0.lo (18446744073709551615#64 - x1.lo)) != (leU x0.hi (18446744073709551615#64 - x1.hi))))) (st_ups _ _) rfl rfl (by kernel_rfl) (fun _ _ _ h => h) (by rfl) (by intro x hx; go_simp; (first | done | exact neB (leU x0.lo (18446744073709551615#64 - x1.lo)) (leU x0.hi (18446744073709551615#64 - x1.hi)) | exact congrArg _ (neB (leU x0.lo (18446744073709551615#64 - x1.lo)) (leU x0.hi (18446744073709551615#64 - x1.hi))) | (rw [neB (leU x0.lo (18446744073709551615#64 - x1.lo)) (leU x0.hi (18446744073709551615#64 - x1.hi))]; done) | (rw [neB (leU x0.lo (18446744073709551615#64 - x1.lo)) (leU x0.hi (18446744073709551615#64 - x1.hi))]; rfl))) ?_
  simp only [List.set_cons_succ, List.set_cons_zero]
  refine take_done (by kernel_rfl) ?_ _
  intro W1 hx
  replace HS := hid hx
  clear hx
  cases h1 : (((leU x0.lo (18446744073709551615#64 - x1.lo)) != (leU x0.hi (18446744073709551615#64 - x1.hi))))
  · replace h1 := hid h1
    -- region 3
    go_upto_region 3 with fail
    refine lin_begin (St w [⟨w.heap.size, [some (.int .u64 (tn (x0.lo))), some (.int .u64 (tn (x0.hi)))], 24⟩, ⟨w.heap.size + 1, [some (.int .u64 (tn (x1.lo))), some (.int .u64 (tn (x1.hi)))], 24⟩, ⟨w.heap.size + 2, [some (.int .u64 0), some (.int .u64 0)], 24⟩]) rfl HS.out ?_
    refine lin_val (i := 0) (v := .pointer (some ⟨w.heap.size, 0, none⟩)) rfl rfl (by rfl) (by intro x hx; go_simp; (first | done | exact rfl)) ?_
    simp only [List.set_cons_succ, List.set_cons_zero]
    refine lin_val (i := 1) (v := .int .u64 (tn (x0.lo))) rfl rfl (by rfl) (by intro x hx; have f0 := hx.load 0 0 rfl rfl; go_simp; (first | done | exact rfl)) ?_
    simp only [List.set_cons_succ, List.set_cons_zero]
    refine lin_val (i := 2) (v := .pointer (some ⟨w.heap.size + 1, 0, none⟩)) rfl rfl (by rfl) (by intro x hx; go_simp; (first | done | exact rfl)) ?_
    simp only [List.set_cons_succ, List.set_cons_zero]
    refine lin_val (i := 3) (v := .int .u64 (tn (x1.lo))) rfl rfl (by rfl) (by intro x hx; have f0 := hx.load 1 0 rfl rfl; go_simp; (first | done | exact rfl)) ?_
    simp only [List.set_cons_succ, List.set_cons_zero]
    refine lin_val (i := 4) (v := .int .u64 (tn (x0.lo + x1.lo))) rfl rfl (by rfl) (by intro x hx; go_simp; (first | done | exact addUT x0.lo x1.lo | exact congrArg _ (addUT x0.lo x1.lo) | (rw [addUT x0.lo x1.lo]; done) | (rw [addUT x0.lo x1.lo]; rfl))) ?_
    simp only [List.set_cons_succ, List.set_cons_zero]
    refine lin_val (i := 5) (v := .pointer (some ⟨w.heap.size, 1, none⟩)) rfl rfl (by rfl) (by intro x hx; go_simp; (first | done | exact rfl)) ?_
    simp only [List.set_cons_succ, List.set_cons_zero]
    refine lin_val (i := 6) (v := .int .u64 (tn (x0.hi))) rfl rfl (by rfl) (by intro x hx; have f0 := hx.load 0 1 rfl rfl; go_simp; (first | done | exact rfl)) ?_
    simp only [List.set_cons_succ, List.set_cons_zero]
    refine lin_val (i := 7) (v := .pointer (some ⟨w.heap.size + 1, 1, none⟩)) rfl rfl (by rfl) (by intro x hx; go_simp; (first | done | exact rfl)) ?_
    simp only [List.set_cons_succ, List.set_cons_zero]
    refine lin_val (i := 8) (v := .int .u64 (tn (x1.hi))) rfl rfl (by rfl) (by intro x hx; have f0 := hx.load 1 1 rfl rfl; go_simp; (first | done | exact rfl)) ?_
    simp only [List.set_cons_succ, List.set_cons_zero]
    refine lin_val (i := 9) (v := .int .u64 (tn (x0.hi + x1.hi))) rfl rfl (by rfl) (by intro x hx; go_simp; (first | done | exact addUT x0.hi x1.hi | exact congrArg _ (addUT x0.hi x1.hi) | (rw [addUT x0.hi x1.hi]; done) | (rw [addUT x0.hi x1.hi]; rfl))) ?_
    simp only [List.set_cons_succ, List.set_cons_zero]
    refine lin_val (i := 10) (v := .agg #[.int .u64 (tn (x0.lo + x1.lo)), .int .u64 (tn (x0.hi + x1.hi))]) rfl rfl (by rfl) (by intro x hx; go_simp; (first | done | exact rfl)) ?_
    simp only [List.set_cons_succ, List.set_cons_zero]
    refine lin_store (i := 11) (St w [⟨w.heap.size, [some (.int .u64 (tn (x0.lo))), some (.int .u64 (tn (x0.hi)))], 24⟩, ⟨w.heap.size + 1, [some (.int .u64 (tn (x1.lo))), some (.int .u64 (tn (x1.hi)))], 24⟩, ⟨w.heap.size + 2, [some (.int .u64 (tn (x0.lo + x1.lo))), some (.int .u64 (tn (x0.hi + x1.hi)))], 24⟩]) rfl rfl (by rfl) (fun x => ((x.setCell ⟨w.heap.size + 2, 0, none⟩ (.int .u64 (tn (x0.lo + x1.lo)))).setCell ⟨w.heap.size + 2, 1, none⟩ (.int .u64 (tn (x0.hi + x1.hi))))) (by intro x hx; obtain ⟨u0, z0⟩ := hx.has 2 0 rfl (by simp); have q0 := hx.soft 2 0 rfl; obtain ⟨u1, z1⟩ := hx.has 2 1 rfl (by simp); have q1 := hx.soft 2 1 rfl; go_simp; (first | done | rfl)) (fun x hx => ((hx.put 2 0 (.int .u64 (tn (x0.lo + x1.lo))) rfl).put 2 1 (.int .u64 (tn (x0.hi + x1.hi))) rfl)) ?_
    refine lin_done ?_
    intro W2 hx
    replace HS := hid hx
    clear hx
    go_wp2
    have r0 := HS.out.load 2 0 rfl rfl
    have r1 := HS.out.load 2 1 rfl rfl
    have HF : ref_Add x0 x1 = P.mk (x0.lo + x1.lo) (x0.hi + x1.hi) := by
      unfold ref_Add
      rw [cond_f h1.out]
    exact bodyPost_ret (v := .agg #[.int .u64 (tn (x0.lo + x1.lo)), .int .u64 (tn (x0.hi + x1.hi))]) (by simp [results, Try.results26, go_sem, r0, r1]) rfl ⟨(by first | (rw [HF]; done) | (rw [HF]; rfl)), HS.out.below⟩
  · replace h1 := hid h1
    -- region 2
    go_upto_region 2 with fail
    refine lin_begin (St w [⟨w.heap.size, [some (.int .u64 (tn (x0.lo))), some (.int .u64 (tn (x0.hi)))], 24⟩, ⟨w.heap.size + 1, [some (.int .u64 (tn (x1.lo))), some (.int .u64 (tn (x1.hi)))], 24⟩, ⟨w.heap.size + 2, [some (.int .u64 0), some (.int .u64 0)], 24⟩]) rfl HS.out ?_
    refine lin_call (i := 0) (f := 18) (args := #[]) (v := .agg #[.int .u64 (tn (0#64)), .int .u64 (tn (18446744073709551615#64))]) (st_ups _ _) rfl rfl (by rfl) (fun x hx => by kernel_rfl) (by intro x hx; exact ref_All_any _) ?_
    simp only [List.set_cons_succ, List.set_cons_zero]
    refine lin_store (i := 1) (St w [⟨w.heap.size, [some (.int .u64 (tn (x0.lo))), some (.int .u64 (tn (x0.hi)))], 24⟩, ⟨w.heap.size + 1, [some (.int .u64 (tn (x1.lo))), some (.int .u64 (tn (x1.hi)))], 24⟩, ⟨w.heap.size + 2, [some (.int .u64 (tn (0#64))), some (.int .u64 (tn (18446744073709551615#64)))], 24⟩]) rfl rfl (by rfl) (fun x => ((x.setCell ⟨w.heap.size + 2, 0, none⟩ (.int .u64 (tn (0#64)))).setCell ⟨w.heap.size + 2, 1, none⟩ (.int .u64 (tn (18446744073709551615#64))))) (by intro x hx; obtain ⟨u0, z0⟩ := hx.has 2 0 rfl (by simp); have q0 := hx.soft 2 0 rfl; obtain ⟨u1, z1⟩ := hx.has 2 1 rfl (by simp); have q1 := hx.soft 2 1 rfl; go_simp; (first | done | rfl)) (fun x hx => ((hx.put 2 0 (.int .u64 (tn (0#64))) rfl).put 2 1 (.int .u64 (tn (18446744073709551615#64))) rfl)) ?_
    refine lin_done ?_
    intro W2 hx
    replace HS := hid hx
    clear hx
    go_wp2
    have r0 := HS.out.load 2 0 rfl rfl
    have r1 := HS.out.load 2 1 rfl rfl
    have HF : ref_Add x0 x1 = P.mk 0#64 18446744073709551615#64 := by
      unfold ref_Add
      rw [cond_t h1.out]
    exact bodyPost_ret (v := .agg #[.int .u64 (tn (0#64)), .int .u64 (tn (18446744073709551615#64))]) (by simp [results, Try.results26, go_sem, r0, r1]) rfl ⟨(by first | (rw [HF]; done) | (rw [HF]; rfl)), HS.out.below⟩
def ref_Sub (x0 : P) (x1 : P) : P :=
  bif ((geU x0.lo x1.hi) != (geU x0.hi x1.lo)) then (P.mk 0#64 18446744073709551615#64) else (P.mk (x0.lo - x1.hi) (x0.hi - x1.lo))
set_option maxRecDepth 100000 in
set_option maxHeartbeats 1000000 in
theorem ref_Sub_any (x0 : P) (x1 : P)  (w : World) :
    Calls Try.prog 28 #[.agg #[.int .u64 (tn (x0.lo)), .int .u64 (tn (x0.hi))], .agg #[.int .u64 (tn (x1.lo)), .int .u64 (tn (x1.hi))]] w fun e w' => e = .returned (.agg #[.int .u64 (tn ((ref_Sub x0 x1).lo)), .int .u64 (tn ((ref_Sub x0 x1).hi))]) ∧ Below w.heap.size w w' := by
  go_enter Try.func28, Try.ntmps28
  have HS := hid ((((st_nil w).alloc (k := w.heap.size) rfl [.int .u64 (tn (x0.lo)), .int .u64 (tn (x0.hi))] 24).alloc (k := w.heap.size + 1) (by simp) [.int .u64 (tn (x1.lo)), .int .u64 (tn (x1.hi))] 24).alloc (k := w.heap.size + 2) (by simp) [.int .u64 0, .int .u64 0] 24)
  -- region 1
  go_upto_region 1 with fail
  refine lin_begin (St w [⟨w.heap.size, [some (.int .u64 (tn (x0.lo))), some (.int .u64 (tn (x0.hi)))], 24⟩, ⟨w.heap.size + 1, [some (.int .u64 (tn (x1.lo))), some (.int .u64 (tn (x1.hi)))], 24⟩, ⟨w.heap.size + 2, [some (.int .u64 0), some (.int .u64 0)], 24⟩]) rfl HS.out ?_
  refine lin_val (i := 0) (v := .pointer (some ⟨w.heap.size, 0, none⟩)) rfl rfl (by rfl) (by intro x hx; go_simp; (first | done | exact rfl)) ?_
  simp only [List.set_cons_succ, List.set_cons_zero]
  refine lin_val (i := 1) (v := .int .u64 (tn (x0.lo))) rfl rfl (by rfl) (by intro x hx; have f0 := hx.load 0 0 rfl rfl; go_simp; (first | done | exact rfl)) ?_
  simp only [List.set_cons_succ, List.set_cons_zero]
  refine lin_val (i := 2) (v := .pointer (some ⟨w.heap.size + 1, 1, none⟩)) rfl rfl (by rfl) (by intro x hx; go_simp; (first | done | exact rfl)) ?_
  simp only [List.set_cons_succ, List.set_cons_zero]
  refine lin_val (i := 3) (v := .int .u64 (tn (x1.hi))) rfl rfl (by rfl) (by intro x hx; have f0 := hx.load 1 1 rfl rfl; go_simp; (first | done | exact rfl)) ?_
  simp only [List.set_cons_succ, List.set_cons_zero]
  refine lin_val (i := 4) (v := .bool (geU x0.lo x1.hi)) rfl rfl (by rfl) (by intro x hx; go_simp; (first | done | exact geUT x0.lo x1.hi | exact congrArg _ (geUT x0.lo x1.hi) | (rw [geUT x0.lo x1.hi]; done) | (rw [geUT x0.lo x1.hi]; rfl))) ?_
  simp only [List.set_cons_succ, List.set_cons_zero]
  refine lin_val (i := 5) (v := .pointer (some ⟨w.heap.size, 1, none⟩)) rfl rfl (by rfl) (by intro x hx; go_simp; (first | done | exact rfl)) ?_
  simp only [List.set_cons_succ, List.set_cons_zero]
  refine lin_val (i := 6) (v := .int .u64 (tn (x0.hi))) rfl rfl (by rfl) (by intro x hx; have f0 := hx.load 0 1 rfl rfl; go_simp; (first | done | exact rfl)) ?_
  simp only [List.set_cons_succ, List.set_cons_zero]
  refine lin_val (i := 7) (v := .pointer (some ⟨w.heap.size + 1, 0, none⟩)) rfl rfl (by rfl) (by intro x hx; go_simp; (first | done | exact rfl)) ?_
  simp only [List.set_cons_succ, List.set_cons_zero]
  refine lin_val (i := 8) (v := .int .u64 (tn (x1.lo))) rfl rfl (by rfl) (by intro x hx; have f0 := hx.load 1 0 rfl rfl; go_simp; (first | done | exact rfl)) ?_
  simp only [List.set_cons_succ, List.set_cons_zero]
  refine lin_val (i := 9) (v := .bool (geU x0.hi x1.lo)) rfl rfl (by rfl) (by intro x hx; go_simp; (first | done | exact geUT x0.hi x1.lo | exact congrArg _ (geUT x0.hi x1.lo) | (rw [geUT x0.hi x1.lo]; done) | (rw [geUT x0.hi x1.lo]; rfl))) ?_
  simp only [List.set_cons_succ, List.set_cons_zero]
  refine lin_val (i := 10) (v := .bool (((geU x0.lo x1.hi) != (geU x0.hi x1.lo)))) rfl rfl (by rfl) (by intro x hx; go_simp; (first | done | exact neB (geU x0.lo x1.hi) (geU x0.hi x1.lo) | exact congrArg _ (neB (geU x0.lo x1.hi) (geU x0.hi x1.lo)) | (rw [neB (geU x0.lo x1.hi) (geU x0.hi x1.lo)]; done) | (rw [neB (geU x0.lo x1.hi) (geU x0.hi x1.lo)]; rfl))) ?_
  simp only [List.set_cons_succ, List.set_cons_zero]
  refine lin_done ?_
  intro W1 hx
  replace HS := hid hx
  clear hx
  cases h1 : (((geU x0.lo x1.hi) != (geU x0.hi x1.lo)))
  · replace h1 := hid h1
    -- region 3
    go_upto_region 3 with fail
    refine lin_begin (St w [⟨w.heap.size, [some (.int .u64 (tn (x0.lo))), some (.int .u64 (tn (x0.hi)))], 24⟩, ⟨w.heap.size + 1, [some (.int .u64 (tn (x1.lo))), some (.int .u64 (tn (x1.hi)))], 24⟩, ⟨w.heap.size + 2, [some (.int .u64 0), some (.int .u64 0)], 24⟩]) rfl HS.out ?_
    refine lin_val (i := 0) (v := .pointer (some ⟨w.heap.size, 0, none⟩)) rfl rfl (by rfl) (by intro x hx; go_simp; (first | done | exact rfl)) ?_
    simp only [List.set_cons_succ, List.set_cons_zero]
    refine lin_val (i := 1) (v := .int .u64 (tn (x0.lo))) rfl rfl (by rfl) (by intro x hx; have f0 := hx.load 0 0 rfl rfl; go_simp; (first | done | exact rfl)) ?_
    simp only [List.set_cons_succ, List.set_cons_zero]
    refine lin_val (i := 2) (v := .pointer (some ⟨w.heap.size + 1, 1, none⟩)) rfl rfl (by rfl) (by intro x hx; go_simp; (first | done | exact rfl)) ?_
    simp only [List.set_cons_succ, List.set_cons_zero]
    refine lin_val (i := 3) (v := .int .u64 (tn (x1.hi))) rfl rfl (by rfl) (by intro x hx; have f0 := hx.load 1 1 rfl rfl; go_simp; (first | done | exact rfl)) ?_
    simp only [List.set_cons_succ, List.set_cons_zero]
    refine lin_val (i := 4) (v := .int .u64 (tn (x0.lo - x1.hi))) rfl rfl (by rfl) (by intro x hx; go_simp; (first | done | exact subUT x0.lo x1.hi | exact congrArg _ (subUT x0.lo x1.hi) | (rw [subUT x0.lo x1.hi]; done) | (rw [subUT x0.lo x1.hi]; rfl))) ?_
    simp only [List.set_cons_succ, List.set_cons_zero]
    refine lin_val (i := 5) (v := .pointer (some ⟨w.heap.size, 1, none⟩)) rfl rfl (by rfl) (by intro x hx; go_simp; (first | done | exact rfl)) ?_
    simp only [List.set_cons_succ, List.set_cons_zero]
    refine lin_val (i := 6) (v := .int .u64 (tn (x0.hi))) rfl rfl (by rfl) (by intro x hx; have f0 := hx.load 0 1 rfl rfl; go_simp; (first | done | exact rfl)) ?_
    simp only [List.set_cons_succ, List.set_cons_zero]
    refine lin_val (i := 7) (v := .pointer (some ⟨w.heap.size + 1, 0, none⟩)) rfl rfl (by rfl) (by intro x hx; go_simp; (first | done | exact rfl)) ?_
    simp only [List.set_cons_succ, List.set_cons_zero]
    refine lin_val (i := 8) (v := .int .u64 (tn (x1.lo))) rfl rfl (by rfl) (by intro x hx; have f0 := hx.load 1 0 rfl rfl; go_simp; (first | done | exact rfl)) ?_
    simp only [List.set_cons_succ, List.set_cons_zero]
    refine lin_val (i := 9) (v := .int .u64 (tn (x0.hi - x1.lo))) rfl rfl (by rfl) (by intro x hx; go_simp; (first | done | exact subUT x0.hi x1.lo | exact congrArg _ (subUT x0.hi x1.lo) | (rw [subUT x0.hi x1.lo]; done) | (rw [subUT x0.hi x1.lo]; rfl))) ?_
    simp only [List.set_cons_succ, List.set_cons_zero]
    refine lin_val (i := 10) (v := .agg #[.int .u64 (tn (x0.lo - x1.hi)), .int .u64 (tn (x0.hi - x1.lo))]) rfl rfl (by rfl) (by intro x hx; go_simp; (first | done | exact rfl)) ?_
    simp only [List.set_cons_succ, List.set_cons_zero]
    refine lin_store (i := 11) (St w [⟨w.heap.size, [some (.int .u64 (tn (x0.lo))), some (.int .u64 (tn (x0.hi)))], 24⟩, ⟨w.heap.size + 1, [some (.int .u64 (tn (x1.lo))), some (.int .u64 (tn (x1.hi)))], 24⟩, ⟨w.heap.size + 2, [some (.int .u64 (tn (x0.lo - x1.hi))), some (.int .u64 (tn (x0.hi - x1.lo)))], 24⟩]) rfl rfl (by rfl) (fun x => ((x.setCell ⟨w.heap.size + 2, 0, none⟩ (.int .u64 (tn (x0.lo - x1.hi)))).setCell ⟨w.heap.size + 2, 1, none⟩ (.int .u64 (tn (x0.hi - x1.lo))))) (by intro x hx; obtain ⟨u0, z0⟩ := hx.has 2 0 rfl (by simp); have q0 := hx.soft 2 0 rfl; obtain ⟨u1, z1⟩ := hx.has 2 1 rfl (by simp); have q1 := hx.soft 2 1 rfl; go_simp; (first | done | rfl)) (fun x hx => ((hx.put 2 0 (.int .u64 (tn (x0.lo - x1.hi))) rfl).put 2 1 (.int .u64 (tn (x0.hi - x1.lo))) rfl)) ?_
    refine lin_done ?_
    intro W2 hx
    replace HS := hid hx
    clear hx
    go_wp2
    have r0 := HS.out.load 2 0 rfl rfl
    have r1 := HS.out.load 2 1 rfl rfl
    have HF : ref_Sub x0 x1 = P.mk (x0.lo - x1.hi) (x0.hi - x1.lo) := by
      unfold ref_Sub
      rw [cond_f h1.out]
    exact bodyPost_ret (v := .agg #[.int .u64 (tn (x0.lo - x1.hi)), .int .u64 (tn (x0.hi - x1.lo))]) (by simp [results, Try.results28, go_sem, r0, r1]) rfl ⟨(by first | (rw [HF]; done) | (rw [HF]; rfl)), HS.out.below⟩
  · replace h1 := hid h1
    -- region 2
    go_upto_region 2 with fail
    refine lin_begin (St w [⟨w.heap.size, [some (.int .u64 (tn (x0.lo))), some (.int .u64 (tn (x0.hi)))], 24⟩, ⟨w.heap.size + 1, [some (.int .u64 (tn (x1.lo))), some (.int .u64 (tn (x1.hi)))], 24⟩, ⟨w.heap.size + 2, [some (.int .u64 0), some (.int .u64 0)], 24⟩]) rfl HS.out ?_
    refine lin_call (i := 0) (f := 18) (args := #[]) (v := .agg #[.int .u64 (tn (0#64)), .int .u64 (tn (18446744073709551615#64))]) (st_ups _ _) rfl rfl (by rfl) (fun x hx => by kernel_rfl) (by intro x hx; exact ref_All_any _) ?_
    simp only [List.set_cons_succ, List.set_cons_zero]
    refine lin_store (i := 1) (St w [⟨w.heap.size, [some (.int .u64 (tn (x0.lo))), some (.int .u64 (tn (x0.hi)))], 24⟩, ⟨w.heap.size + 1, [some (.int .u64 (tn (x1.lo))), some (.int .u64 (tn (x1.hi)))], 24⟩, ⟨w.heap.size + 2, [some (.int .u64 (tn (0#64))), some (.int .u64 (tn (18446744073709551615#64)))], 24⟩]) rfl rfl (by rfl) (fun x => ((x.setCell ⟨w.heap.size + 2, 0, none⟩ (.int .u64 (tn (0#64)))).setCell ⟨w.heap.size + 2, 1, none⟩ (.int .u64 (tn (18446744073709551615#64))))) (by intro x hx; obtain ⟨u0, z0⟩ := hx.has 2 0 rfl (by simp); have q0 := hx.soft 2 0 rfl; obtain ⟨u1, z1⟩ := hx.has 2 1 rfl (by simp); have q1 := hx.soft 2 1 rfl; go_simp; (first | done | rfl)) (fun x hx => ((hx.put 2 0 (.int .u64 (tn (0#64))) rfl).put 2 1 (.int .u64 (tn (18446744073709551615#64))) rfl)) ?_
    refine lin_done ?_
    intro W2 hx
    replace HS := hid hx
    clear hx
    go_wp2
    have r0 := HS.out.load 2 0 rfl rfl
    have r1 := HS.out.load 2 1 rfl rfl
    have HF : ref_Sub x0 x1 = P.mk 0#64 18446744073709551615#64 := by
      unfold ref_Sub
      rw [cond_t h1.out]
    exact bodyPost_ret (v := .agg #[.int .u64 (tn (0#64)), .int .u64 (tn (18446744073709551615#64))]) (by simp [results, Try.results28, go_sem, r0, r1]) rfl ⟨(by first | (rw [HF]; done) | (rw [HF]; rfl)), HS.out.below⟩
def ref_times (x0 : BitVec 64) (x1 : BitVec 64) : Bool :=
  bif (x0 == 0#64) then (true) else (leU x1 (18446744073709551615#64 / x0))
set_option maxRecDepth 100000 in
set_option maxHeartbeats 1000000 in
theorem ref_times_any (x0 : BitVec 64) (x1 : BitVec 64)  (w : World) :
    Calls Try.prog 93 #[.int .u64 (tn (x0)), .int .u64 (tn (x1))] w fun e w' => e = .returned (.bool (ref_times x0 x1)) ∧ Below w.heap.size w w' := by
  go_enter Try.func93, Try.ntmps93
  have HS := hid (st_nil w)
  -- region 1
  go_upto_region 1 with fail
  refine lin_begin (St w []) rfl HS.out ?_
  refine lin_val (i := 0) (v := .int .u64 (tn (x0))) rfl rfl (by rfl) (by intro x hx; go_simp; (first | done | exact rfl)) ?_
  simp only [List.set_cons_succ, List.set_cons_zero]
  refine lin_val (i := 1) (v := .bool ((x0 == 0#64))) rfl rfl (by rfl) (by intro x hx; go_simp; (first | done | exact eqUT x0 0#64 | exact congrArg _ (eqUT x0 0#64) | (rw [eqUT x0 0#64]; done) | (rw [eqUT x0 0#64]; rfl))) ?_
  simp only [List.set_cons_succ, List.set_cons_zero]
  refine lin_val (i := 2) (v := .bool ((x0 == 0#64))) rfl rfl (by rfl) (by intro x hx; go_simp; (first | done | exact rfl)) ?_
  simp only [List.set_cons_succ, List.set_cons_zero]
  cases h1 : ((x0 == 0#64))
  · replace h1 := hid h1
    refine lin_val (i := 3) (v := .int .u64 (tn (x1))) rfl rfl (by rfl) (by intro x hx; go_simp; (first | done | exact rfl)) ?_
    simp only [List.set_cons_succ, List.set_cons_zero]
    refine lin_val (i := 4) (v := .int .u64 (tn (x0))) rfl rfl (by rfl) (by intro x hx; go_simp; (first | done | exact rfl)) ?_
    simp only [List.set_cons_succ, List.set_cons_zero]
    refine lin_val (i := 5) (v := .int .u64 (tn (18446744073709551615#64 / x0))) rfl rfl (by rfl) (by intro x hx; have hy := ne0U h1.out; go_simp; (first | done | exact (if_neg hy).trans (congrArg (fun v => Result.ok (Next.value (Value.int .u64 v)) x) (quoUT 18446744073709551615#64 x0)) | exact quoUT 18446744073709551615#64 x0 | exact congrArg _ (quoUT 18446744073709551615#64 x0) | (rw [quoUT 18446744073709551615#64 x0]; done) | (rw [quoUT 18446744073709551615#64 x0]; rfl))) ?_
    simp only [List.set_cons_succ, List.set_cons_zero]
    refine lin_val (i := 6) (v := .bool (leU x1 (18446744073709551615#64 / x0))) rfl rfl (by rfl) (by intro x hx; go_simp; (first | done | exact leUT x1 (18446744073709551615#64 / x0) | exact congrArg _ (leUT x1 (18446744073709551615#64 / x0)) | (rw [leUT x1 (18446744073709551615#64 / x0)]; done) | (rw [leUT x1 (18446744073709551615#64 / x0)]; rfl))) ?_
    simp only [List.set_cons_succ, List.set_cons_zero]
    refine lin_val (i := 7) (v := .bool (leU x1 (18446744073709551615#64 / x0))) rfl rfl (by rfl) (by intro x hx; go_simp; (first | done | exact rfl)) ?_
    simp only [List.set_cons_succ, List.set_cons_zero]
    refine lin_val (i := 8) (v := .bool (leU x1 (18446744073709551615#64 / x0))) rfl rfl (by rfl) (by intro x hx; go_simp; (first | done | exact rfl)) ?_
    simp only [List.set_cons_succ, List.set_cons_zero]
    refine lin_done ?_
    intro W1 hx
    replace HS := hid hx
    clear hx
    go_wp2
    have HF : ref_times x0 x1 = leU x1 (18446744073709551615#64 / x0) := by
      unfold ref_times
      rw [cond_f h1.out]
    exact bodyPost_ret (v := .bool (leU x1 (18446744073709551615#64 / x0))) (by simp [results, Try.results93, go_sem]) rfl ⟨(by first | (rw [HF]; done) | (rw [HF]; rfl)), HS.out.below⟩
  · replace h1 := hid h1
    refine lin_no (i := 3) rfl rfl (by kernel_rfl) ?_
    simp only [List.set_cons_succ, List.set_cons_zero]
    refine lin_no (i := 4) rfl rfl (by kernel_rfl) ?_
    simp only [List.set_cons_succ, List.set_cons_zero]
    refine lin_no (i := 5) rfl rfl (by kernel_rfl) ?_
    simp only [List.set_cons_succ, List.set_cons_zero]
    refine lin_no (i := 6) rfl rfl (by kernel_rfl) ?_
    simp only [List.set_cons_succ, List.set_cons_zero]
    refine lin_val (i := 7) (v := .bool true) rfl rfl (by rfl) (by intro x hx; go_simp; (first | done | exact rfl)) ?_
    simp only [List.set_cons_succ, List.set_cons_zero]
    refine lin_val (i := 8) (v := .bool true) rfl rfl (by rfl) (by intro x hx; go_simp; (first | done | exact rfl)) ?_
    simp only [List.set_cons_succ, List.set_cons_zero]
    refine lin_done ?_
    intro W1 hx
    replace HS := hid hx
    clear hx
    go_wp2
    have HF : ref_times x0 x1 = true := by
      unfold ref_times
      rw [cond_t h1.out]
    exact bodyPost_ret (v := .bool true) (by simp [results, Try.results93, go_sem]) rfl ⟨(by first | (rw [HF]; done) | (rw [HF]; rfl)), HS.out.below⟩
def ref_Mul (x0 : P) (x1 : P) : P :=
  bif (!(ref_times x0.hi x1.hi)) then (P.mk 0#64 18446744073709551615#64) else (P.mk (x0.lo * x1.lo) (x0.hi * x1.hi))
set_option maxRecDepth 100000 in
set_option maxHeartbeats 1000000 in
theorem ref_Mul_any (x0 : P) (x1 : P)  (w : World) :
    Calls Try.prog 30 #[.agg #[.int .u64 (tn (x0.lo)), .int .u64 (tn (x0.hi))], .agg #[.int .u64 (tn (x1.lo)), .int .u64 (tn (x1.hi))]] w fun e w' => e = .returned (.agg #[.int .u64 (tn ((ref_Mul x0 x1).lo)), .int .u64 (tn ((ref_Mul x0 x1).hi))]) ∧ Below w.heap.size w w' := by
  go_enter Try.func30, Try.ntmps30
  have HS := hid ((((st_nil w).alloc (k := w.heap.size) rfl [.int .u64 (tn (x0.lo)), .int .u64 (tn (x0.hi))] 24).alloc (k := w.heap.size + 1) (by simp) [.int .u64 (tn (x1.lo)), .int .u64 (tn (x1.hi))] 24).alloc (k := w.heap.size + 2) (by simp) [.int .u64 0, .int .u64 0] 24)
  -- region 1
  go_upto_region 1 with fail
  refine lin_begin (St w [⟨w.heap.size, [some (.int .u64 (tn (x0.lo))), some (.int .u64 (tn (x0.hi)))], 24⟩, ⟨w.heap.size + 1, [some (.int .u64 (tn (x1.lo))), some (.int .u64 (tn (x1.hi)))], 24⟩, ⟨w.heap.size + 2, [some (.int .u64 0), some (.int .u64 0)], 24⟩]) rfl HS.out ?_
  refine lin_val (i := 0) (v := .pointer (some ⟨w.heap.size, 1, none⟩)) rfl rfl (by rfl) (by intro x hx; go_simp; (first | done | exact rfl)) ?_
  simp only [List.set_cons_succ, List.set_cons_zero]
  refine lin_val (i := 1) (v := .int .u64 (tn (x0.hi))) rfl rfl (by rfl) (by intro x hx; have f0 := hx.load 0 1 rfl rfl; go_simp; (first | done | exact rfl)) ?_
  simp only [List.set_cons_succ, List.set_cons_zero]
  refine lin_val (i := 2) (v := .pointer (some ⟨w.heap.size + 1, 1, none⟩)) rfl rfl (by rfl) (by intro x hx; go_simp; (first | done | exact rfl)) ?_
  simp only [List.set_cons_succ, List.set_cons_zero]
  refine lin_val (i := 3) (v := .int .u64 (tn (x1.hi))) rfl rfl (by rfl) (by intro x hx; have f0 := hx.load 1 1 rfl rfl; go_simp; (first | done | exact rfl)) ?_
  simp only [List.set_cons_succ, List.set_cons_zero]
  refine lin_call (i := 4) (f := 93) (args := #[.int .u64 (tn (x0.hi)), .int .u64 (tn (x1.hi))]) (v := .bool (ref_times x0.hi x1.hi)) (st_ups _ _) rfl rfl (by rfl) (fun x hx => by kernel_rfl) (by intro x hx; exact ref_times_any x0.hi x1.hi _) ?_
  simp only [List.set_cons_succ, List.set_cons_zero]
  refine lin_val (i := 5) (v := .bool ((!(ref_times x0.hi x1.hi)))) rfl rfl (by rfl) (by intro x hx; go_simp; (first | done | exact rfl)) ?_
  simp only [List.set_cons_succ, List.set_cons_zero]
  refine lin_done ?_
  intro W1 hx
  replace HS := hid hx
  clear hx
  cases h1 : ((!(ref_times x0.hi x1.hi)))
  · replace h1 := hid h1
    -- region 3
    go_upto_region 3 with fail
    refine lin_begin (St w [⟨w.heap.size, [some (.int .u64 (tn (x0.lo))), some (.int .u64 (tn (x0.hi)))], 24⟩, ⟨w.heap.size + 1, [some (.int .u64 (tn (x1.lo))), some (.int .u64 (tn (x1.hi)))], 24⟩, ⟨w.heap.size + 2, [some (.int .u64 0), some (.int .u64 0)], 24⟩]) rfl HS.out ?_
    refine lin_val (i := 0) (v := .pointer (some ⟨w.heap.size, 0, none⟩)) rfl rfl (by rfl) (by intro x hx; go_simp; (first | done | exact rfl)) ?_
    simp only [List.set_cons_succ, List.set_cons_zero]
    refine lin_val (i := 1) (v := .int .u64 (tn (x0.lo))) rfl rfl (by rfl) (by intro x hx; have f0 := hx.load 0 0 rfl rfl; go_simp; (first | done | exact rfl)) ?_
    simp only [List.set_cons_succ, List.set_cons_zero]
    refine lin_val (i := 2) (v := .pointer (some ⟨w.heap.size + 1, 0, none⟩)) rfl rfl (by rfl) (by intro x hx; go_simp; (first | done | exact rfl)) ?_
    simp only [List.set_cons_succ, List.set_cons_zero]
    refine lin_val (i := 3) (v := .int .u64 (tn (x1.lo))) rfl rfl (by rfl) (by intro x hx; have f0 := hx.load 1 0 rfl rfl; go_simp; (first | done | exact rfl)) ?_
    simp only [List.set_cons_succ, List.set_cons_zero]
    refine lin_val (i := 4) (v := .int .u64 (tn (x0.lo * x1.lo))) rfl rfl (by rfl) (by intro x hx; go_simp; (first | done | exact mulUT x0.lo x1.lo | exact congrArg _ (mulUT x0.lo x1.lo) | (rw [mulUT x0.lo x1.lo]; done) | (rw [mulUT x0.lo x1.lo]; rfl))) ?_
    simp only [List.set_cons_succ, List.set_cons_zero]
    refine lin_val (i := 5) (v := .pointer (some ⟨w.heap.size, 1, none⟩)) rfl rfl (by rfl) (by intro x hx; go_simp; (first | done | exact rfl)) ?_
    simp only [List.set_cons_succ, List.set_cons_zero]
    refine lin_val (i := 6) (v := .int .u64 (tn (x0.hi))) rfl rfl (by rfl) (by intro x hx; have f0 := hx.load 0 1 rfl rfl; go_simp; (first | done | exact rfl)) ?_
    simp only [List.set_cons_succ, List.set_cons_zero]
    refine lin_val (i := 7) (v := .pointer (some ⟨w.heap.size + 1, 1, none⟩)) rfl rfl (by rfl) (by intro x hx; go_simp; (first | done | exact rfl)) ?_
    simp only [List.set_cons_succ, List.set_cons_zero]
    refine lin_val (i := 8) (v := .int .u64 (tn (x1.hi))) rfl rfl (by rfl) (by intro x hx; have f0 := hx.load 1 1 rfl rfl; go_simp; (first | done | exact rfl)) ?_
    simp only [List.set_cons_succ, List.set_cons_zero]
    refine lin_val (i := 9) (v := .int .u64 (tn (x0.hi * x1.hi))) rfl rfl (by rfl) (by intro x hx; go_simp; (first | done | exact mulUT x0.hi x1.hi | exact congrArg _ (mulUT x0.hi x1.hi) | (rw [mulUT x0.hi x1.hi]; done) | (rw [mulUT x0.hi x1.hi]; rfl))) ?_
    simp only [List.set_cons_succ, List.set_cons_zero]
    refine lin_val (i := 10) (v := .agg #[.int .u64 (tn (x0.lo * x1.lo)), .int .u64 (tn (x0.hi * x1.hi))]) rfl rfl (by rfl) (by intro x hx; go_simp; (first | done | exact rfl)) ?_
    simp only [List.set_cons_succ, List.set_cons_zero]
    refine lin_store (i := 11) (St w [⟨w.heap.size, [some (.int .u64 (tn (x0.lo))), some (.int .u64 (tn (x0.hi)))], 24⟩, ⟨w.heap.size + 1, [some (.int .u64 (tn (x1.lo))), some (.int .u64 (tn (x1.hi)))], 24⟩, ⟨w.heap.size + 2, [some (.int .u64 (tn (x0.lo * x1.lo))), some (.int .u64 (tn (x0.hi * x1.hi)))], 24⟩]) rfl rfl (by rfl) (fun x => ((x.setCell ⟨w.heap.size + 2, 0, none⟩ (.int .u64 (tn (x0.lo * x1.lo)))).setCell ⟨w.heap.size + 2, 1, none⟩ (.int .u64 (tn (x0.hi * x1.hi))))) (by intro x hx; obtain ⟨u0, z0⟩ := hx.has 2 0 rfl (by simp); have q0 := hx.soft 2 0 rfl; obtain ⟨u1, z1⟩ := hx.has 2 1 rfl (by simp); have q1 := hx.soft 2 1 rfl; go_simp; (first | done | rfl)) (fun x hx => ((hx.put 2 0 (.int .u64 (tn (x0.lo * x1.lo))) rfl).put 2 1 (.int .u64 (tn (x0.hi * x1.hi))) rfl)) ?_
    refine lin_done ?_
    intro W2 hx
    replace HS := hid hx
    clear hx
    go_wp2
    have r0 := HS.out.load 2 0 rfl rfl
    have r1 := HS.out.load 2 1 rfl rfl
    have HF : ref_Mul x0 x1 = P.mk (x0.lo * x1.lo) (x0.hi * x1.hi) := by
      unfold ref_Mul
      rw [cond_f h1.out]
    exact bodyPost_ret (v := .agg #[.int .u64 (tn (x0.lo * x1.lo)), .int .u64 (tn (x0.hi * x1.hi))]) (by simp [results, Try.results30, go_sem, r0, r1]) rfl ⟨(by first | (rw [HF]; done) | (rw [HF]; rfl)), HS.out.below⟩
  · replace h1 := hid h1
    -- region 2
    go_upto_region 2 with fail
    refine lin_begin (St w [⟨w.heap.size, [some (.int .u64 (tn (x0.lo))), some (.int .u64 (tn (x0.hi)))], 24⟩, ⟨w.heap.size + 1, [some (.int .u64 (tn (x1.lo))), some (.int .u64 (tn (x1.hi)))], 24⟩, ⟨w.heap.size + 2, [some (.int .u64 0), some (.int .u64 0)], 24⟩]) rfl HS.out ?_
    refine lin_call (i := 0) (f := 18) (args := #[]) (v := .agg #[.int .u64 (tn (0#64)), .int .u64 (tn (18446744073709551615#64))]) (st_ups _ _) rfl rfl (by rfl) (fun x hx => by kernel_rfl) (by intro x hx; exact ref_All_any _) ?_
    simp only [List.set_cons_succ, List.set_cons_zero]
    refine lin_store (i := 1) (St w [⟨w.heap.size, [some (.int .u64 (tn (x0.lo))), some (.int .u64 (tn (x0.hi)))], 24⟩, ⟨w.heap.size + 1, [some (.int .u64 (tn (x1.lo))), some (.int .u64 (tn (x1.hi)))], 24⟩, ⟨w.heap.size + 2, [some (.int .u64 (tn (0#64))), some (.int .u64 (tn (18446744073709551615#64)))], 24⟩]) rfl rfl (by rfl) (fun x => ((x.setCell ⟨w.heap.size + 2, 0, none⟩ (.int .u64 (tn (0#64)))).setCell ⟨w.heap.size + 2, 1, none⟩ (.int .u64 (tn (18446744073709551615#64))))) (by intro x hx; obtain ⟨u0, z0⟩ := hx.has 2 0 rfl (by simp); have q0 := hx.soft 2 0 rfl; obtain ⟨u1, z1⟩ := hx.has 2 1 rfl (by simp); have q1 := hx.soft 2 1 rfl; go_simp; (first | done | rfl)) (fun x hx => ((hx.put 2 0 (.int .u64 (tn (0#64))) rfl).put 2 1 (.int .u64 (tn (18446744073709551615#64))) rfl)) ?_
    refine lin_done ?_
    intro W2 hx
    replace HS := hid hx
    clear hx
    go_wp2
    have r0 := HS.out.load 2 0 rfl rfl
    have r1 := HS.out.load 2 1 rfl rfl
    have HF : ref_Mul x0 x1 = P.mk 0#64 18446744073709551615#64 := by
      unfold ref_Mul
      rw [cond_t h1.out]
    exact bodyPost_ret (v := .agg #[.int .u64 (tn (0#64)), .int .u64 (tn (18446744073709551615#64))]) (by simp [results, Try.results30, go_sem, r0, r1]) rfl ⟨(by first | (rw [HF]; done) | (rw [HF]; rfl)), HS.out.below⟩
def ref_Mod (x0 : P) (x1 : P) : P :=
  bif eqP x1 (P.mk 0#64 0#64) then (x0) else (bif ltU x0.hi x1.lo then (x0) else (bif ref_In x1 0#64 then (P.mk 0#64 x0.hi) else (bif ltU x0.hi (x1.hi - 1#64) then (P.mk 0#64 x0.hi) else (P.mk 0#64 (x1.hi - 1#64)))))
set_option maxRecDepth 100000 in
set_option maxHeartbeats 1000000 in
theorem ref_Mod_any (x0 : P) (x1 : P)  (w : World) :
    Calls Try.prog 34 #[.agg #[.int .u64 (tn (x0.lo)), .int .u64 (tn (x0.hi))], .agg #[.int .u64 (tn (x1.lo)), .int .u64 (tn (x1.hi))]] w fun e w' => e = .returned (.agg #[.int .u64 (tn ((ref_Mod x0 x1).lo)), .int .u64 (tn ((ref_Mod x0 x1).hi))]) ∧ Below w.heap.size w w' := by
  go_enter Try.func34, Try.ntmps34
  have HS := hid ((((st_nil w).alloc (k := w.heap.size) rfl [.int .u64 (tn (x0.lo)), .int .u64 (tn (x0.hi))] 24).alloc (k := w.heap.size + 1) (by simp) [.int .u64 (tn (x1.lo)), .int .u64 (tn (x1.hi))] 24).alloc (k := w.heap.size + 2) (by simp) [.int .u64 0, .int .u64 0] 24)
  -- region 1
  go_upto_region 1 with fail
  refine up_begin (St w [⟨w.heap.size, [some (.int .u64 (tn (x0.lo))), some (.int .u64 (tn (x0.hi)))], 24⟩, ⟨w.heap.size + 1, [some (.int .u64 (tn (x1.lo))), some (.int .u64 (tn (x1.hi)))], 24⟩, ⟨w.heap.size + 2, [some (.int .u64 0), some (.int .u64 0)], 24⟩]) 10 rfl (by kernel_rfl) (HS.out.drew) ?_
  refine take_val (i := 0) (v := .agg #[.int .u64 (tn (x1.lo)), .int .u64 (tn (x1.hi))]) (st_ups _ _) rfl rfl (by kernel_rfl) (fun _ _ _ h => h) (by rfl) (by intro x hx; have f0 := hx.load 1 0 rfl rfl; have f1 := hx.load 1 1 rfl rfl; go_simp; (first | done | exact rfl)) ?_
  simp only [List.set_cons_succ, List.set_cons_zero]
  refine take_call (i := 1) (f := 16) (args := #[.int .u64 (tn (0#64))]) (v := .agg #[.int .u64 (tn (0#64)), .int .u64 (tn (0#64))]) (st_ups _ _) rfl rfl (by kernel_rfl) (fun _ _ _ h => h) (by rfl) (fun x hx => by kernel_rfl) (by intro x hx; exact ref_Of_any 0#64 _) ?_
  simp only [List.set_cons_succ, List.set_cons_zero]
  refine take_val (i := 2) (v := .bool (eqP x1 (P.mk 0#64 0#64))) (st_ups _ _) rfl rfl (by kernel_rfl) (fun _ _ _ h => h) (by rfl) (by intro x hx; go_simp; (first | done | exact eqPT (fun b => Result.ok (Next.value (Value.bool b)) x) x1.lo x1.hi 0#64 0#64)) ?_
  simp only [List.set_cons_succ, List.set_cons_zero]
  refine take_val (i := 3) (v := .bool (eqP x1 (P.mk 0#64 0#64))) (st_ups _ _) rfl rfl (by kernel_rfl) (fun _ _ _ h => h) (by rfl) (by intro x hx; go_simp; (first | done | exact rfl)) ?_
  simp only [List.set_cons_succ, List.set_cons_zero]
  cases h1 : (eqP x1 (P.mk 0#64 0#64))
  · replace h1 := hid h1
    refine take_val (i := 4) (v := .pointer (some ⟨w.heap.size, 1, none⟩)) (st_ups _ _) rfl rfl (by kernel_rfl) (fun _ _ _ h => h) (by rfl) (by intro x hx; go_simp; (first | done | exact rfl)) ?_
    simp only [List.set_cons_succ, List.set_cons_zero]
    refine take_val (i := 5) (v := .int .u64 (tn (x0.hi))) (st_ups _ _) rfl rfl (by kernel_rfl) (fun _ _ _ h => h) (by rfl) (by intro x hx; have f0 := hx.load 0 1 rfl rfl; go_simp; (first | done | exact rfl)) ?_
    simp only [List.set_cons_succ, List.set_cons_zero]
    refine take_val (i := 6) (v := .pointer (some ⟨w.heap.size + 1, 0, none⟩)) (st_ups _ _) rfl rfl (by kernel_rfl) (fun _ _ _ h => h) (by rfl) (by intro x hx; go_simp; (first | done | exact rfl)) ?_
    simp only [List.set_cons_succ, List.set_cons_zero]
    refine take_val (i := 7) (v := .int .u64 (tn (x1.lo))) (st_ups _ _) rfl rfl (by kernel_rfl) (fun _ _ _ h => h) (by rfl) (by intro x hx; have f0 := hx.load 1 0 rfl rfl; go_simp; (first | done | exact rfl)) ?_
    simp only [List.set_cons_succ, List.set_cons_zero]
    refine take_val (i := 8) (v := .bool (ltU x0.hi x1.lo)) (st_ups _ _) rfl rfl (by kernel_rfl) (fun _ _ _ h => h) (by rfl) (by intro x hx; go_simp; (first | done | exact ltUT x0.hi x1.lo | exact congrArg _ (ltUT x0.hi x1.lo) | (rw [ltUT x0.hi x1.lo]; done) | (rw [ltUT x0.hi x1.lo]; rfl))) ?_
    simp only [List.set_cons_succ, List.set_cons_zero]
    refine take_val (i := 9) (v := .bool (ltU x0.hi x1.lo)) (st_ups _ _) rfl rfl (by kernel_rfl) (fun _ _ _ h => h) (by rfl) (by intro x hx; go_simp; (first | done | exact rfl)) ?_
    simp only [List.set_cons_succ, List.set_cons_zero]
    refine take_done (by kernel_rfl) ?_ _
    intro W1 hx
    replace HS := hid hx
    clear hx
    cases h2 : (ltU x0.hi x1.lo)
    · replace h2 := hid h2
      -- region 3
      go_upto_region 3 with fail
      refine lin_begin (St w [⟨w.heap.size, [some (.int .u64 (tn (x0.lo))), some (.int .u64 (tn (x0.hi)))], 24⟩, ⟨w.heap.size + 1, [some (.int .u64 (tn (x1.lo))), some (.int .u64 (tn (x1.hi)))], 24⟩, ⟨w.heap.size + 2, [some (.int .u64 0), some (.int .u64 0)], 24⟩]) rfl HS.out ?_
      refine lin_val (i := 0) (v := .agg #[.int .u64 (tn (x1.lo)), .int .u64 (tn (x1.hi))]) rfl rfl (by rfl) (by intro x hx; have f0 := hx.load 1 0 rfl rfl; have f1 := hx.load 1 1 rfl rfl; go_simp; (first | done | exact rfl)) ?_
      simp only [List.set_cons_succ, List.set_cons_zero]
      refine lin_call (i := 1) (f := 20) (args := #[.agg #[.int .u64 (tn (x1.lo)), .int .u64 (tn (x1.hi))], .int .u64 (tn (0#64))]) (v := .bool (ref_In x1 0#64)) (st_ups _ _) rfl rfl (by rfl) (fun x hx => by kernel_rfl) (by intro x hx; exact ref_In_any x1 0#64 _) ?_
      simp only [List.set_cons_succ, List.set_cons_zero]
      refine lin_val (i := 2) (v := .bool (ref_In x1 0#64)) rfl rfl (by rfl) (by intro x hx; go_simp; (first | done | exact rfl)) ?_
      simp only [List.set_cons_succ, List.set_cons_zero]
      cases h3 : (ref_In x1 0#64)
      · replace h3 := hid h3
        refine lin_val (i := 3) (v := .pointer (some ⟨w.heap.size, 1, none⟩)) rfl rfl (by rfl) (by intro x hx; go_simp; (first | done | exact rfl)) ?_
        simp only [List.set_cons_succ, List.set_cons_zero]
        refine lin_val (i := 4) (v := .int .u64 (tn (x0.hi))) rfl rfl (by rfl) (by intro x hx; have f0 := hx.load 0 1 rfl rfl; go_simp; (first | done | exact rfl)) ?_
        simp only [List.set_cons_succ, List.set_cons_zero]
        refine lin_val (i := 5) (v := .pointer (some ⟨w.heap.size + 1, 1, none⟩)) rfl rfl (by rfl) (by intro x hx; go_simp; (first | done | exact rfl)) ?_
        simp only [List.set_cons_succ, List.set_cons_zero]
        refine lin_val (i := 6) (v := .int .u64 (tn (x1.hi))) rfl rfl (by rfl) (by intro x hx; have f0 := hx.load 1 1 rfl rfl; go_simp; (first | done | exact rfl)) ?_
        simp only [List.set_cons_succ, List.set_cons_zero]
        refine lin_val (i := 7) (v := .int .u64 (tn (x1.hi - 1#64))) rfl rfl (by rfl) (by intro x hx; go_simp; (first | done | exact subUT x1.hi 1#64 | exact congrArg _ (subUT x1.hi 1#64) | (rw [subUT x1.hi 1#64]; done) | (rw [subUT x1.hi 1#64]; rfl))) ?_
        simp only [List.set_cons_succ, List.set_cons_zero]
        refine lin_val (i := 8) (v := .bool (ltU x0.hi (x1.hi - 1#64))) rfl rfl (by rfl) (by intro x hx; go_simp; (first | done | exact ltUT x0.hi (x1.hi - 1#64) | exact congrArg _ (ltUT x0.hi (x1.hi - 1#64)) | (rw [ltUT x0.hi (x1.hi - 1#64)]; done) | (rw [ltUT x0.hi (x1.hi - 1#64)]; rfl))) ?_
        simp only [List.set_cons_succ, List.set_cons_zero]
        refine lin_val (i := 9) (v := .bool (ltU x0.hi (x1.hi - 1#64))) rfl rfl (by rfl) (by intro x hx; go_simp; (first | done | exact rfl)) ?_
        simp only [List.set_cons_succ, List.set_cons_zero]
        refine lin_done ?_
        intro W2 hx
        replace HS := hid hx
        clear hx
        cases h4 : (ltU x0.hi (x1.hi - 1#64))
        · replace h4 := hid h4
          -- region 5
          go_upto_region 5 with fail
          refine lin_begin (St w [⟨w.heap.size, [some (.int .u64 (tn (x0.lo))), some (.int .u64 (tn (x0.hi)))], 24⟩, ⟨w.heap.size + 1, [some (.int .u64 (tn (x1.lo))), some (.int .u64 (tn (x1.hi)))], 24⟩, ⟨w.heap.size + 2, [some (.int .u64 0), some (.int .u64 0)], 24⟩]) rfl HS.out ?_
          refine lin_val (i := 0) (v := .pointer (some ⟨w.heap.size + 1, 1, none⟩)) rfl rfl (by rfl) (by intro x hx; go_simp; (first | done | exact rfl)) ?_
          simp only [List.set_cons_succ, List.set_cons_zero]
          refine lin_val (i := 1) (v := .int .u64 (tn (x1.hi))) rfl rfl (by rfl) (by intro x hx; have f0 := hx.load 1 1 rfl rfl; go_simp; (first | done | exact rfl)) ?_
          simp only [List.set_cons_succ, List.set_cons_zero]
          refine lin_val (i := 2) (v := .int .u64 (tn (x1.hi - 1#64))) rfl rfl (by rfl) (by intro x hx; go_simp; (first | done | exact subUT x1.hi 1#64 | exact congrArg _ (subUT x1.hi 1#64) | (rw [subUT x1.hi 1#64]; done) | (rw [subUT x1.hi 1#64]; rfl))) ?_
          simp only [List.set_cons_succ, List.set_cons_zero]
          refine lin_val (i := 3) (v := .agg #[.int .u64 0, .int .u64 (tn (x1.hi - 1#64))]) rfl rfl (by rfl) (by intro x hx; go_simp; (first | done | exact rfl)) ?_
          simp only [List.set_cons_succ, List.set_cons_zero]
          refine lin_store (i := 4) (St w [⟨w.heap.size, [some (.int .u64 (tn (x0.lo))), some (.int .u64 (tn (x0.hi)))], 24⟩, ⟨w.heap.size + 1, [some (.int .u64 (tn (x1.lo))), some (.int .u64 (tn (x1.hi)))], 24⟩, ⟨w.heap.size + 2, [some (.int .u64 0), some (.int .u64 (tn (x1.hi - 1#64)))], 24⟩]) rfl rfl (by rfl) (fun x => ((x.setCell ⟨w.heap.size + 2, 0, none⟩ (.int .u64 0)).setCell ⟨w.heap.size + 2, 1, none⟩ (.int .u64 (tn (x1.hi - 1#64))))) (by intro x hx; obtain ⟨u0, z0⟩ := hx.has 2 0 rfl (by simp); have q0 := hx.soft 2 0 rfl; obtain ⟨u1, z1⟩ := hx.has 2 1 rfl (by simp); have q1 := hx.soft 2 1 rfl; go_simp; (first | done | rfl)) (fun x hx => ((hx.put 2 0 (.int .u64 0) rfl).put 2 1 (.int .u64 (tn (x1.hi - 1#64))) rfl)) ?_
          refine lin_done ?_
          intro W3 hx
          replace HS := hid hx
          clear hx
          go_wp2
          have r0 := HS.out.load 2 0 rfl rfl
          have r1 := HS.out.load 2 1 rfl rfl
          have HF : ref_Mod x0 x1 = P.mk 0#64 (x1.hi - 1#64) := by
            unfold ref_Mod
            rw [cond_f h1.out, cond_f h2.out, cond_f h3.out, cond_f h4.out]
          exact bodyPost_ret (v := .agg #[.int .u64 0, .int .u64 (tn (x1.hi - 1#64))]) (by simp [results, Try.results34, go_sem, r0, r1]) rfl ⟨(by first | (rw [HF]; done) | (rw [HF]; rfl)), HS.out.below⟩
        · replace h4 := hid h4
          -- region 4
          go_upto_region 4 with fail
          refine lin_begin (St w [⟨w.heap.size, [some (.int .u64 (tn (x0.lo))), some (.int .u64 (tn (x0.hi)))], 24⟩, ⟨w.heap.size + 1, [some (.int .u64 (tn (x1.lo))), some (.int .u64 (tn (x1.hi)))], 24⟩, ⟨w.heap.size + 2, [some (.int .u64 0), some (.int .u64 0)], 24⟩]) rfl HS.out ?_
          refine lin_val (i := 0) (v := .pointer (some ⟨w.heap.size, 1, none⟩)) rfl rfl (by rfl) (by intro x hx; go_simp; (first | done | exact rfl)) ?_
          simp only [List.set_cons_succ, List.set_cons_zero]
          refine lin_val (i := 1) (v := .int .u64 (tn (x0.hi))) rfl rfl (by rfl) (by intro x hx; have f0 := hx.load 0 1 rfl rfl; go_simp; (first | done | exact rfl)) ?_
          simp only [List.set_cons_succ, List.set_cons_zero]
          refine lin_val (i := 2) (v := .agg #[.int .u64 0, .int .u64 (tn (x0.hi))]) rfl rfl (by rfl) (by intro x hx; go_simp; (first | done | exact rfl)) ?_
          simp only [List.set_cons_succ, List.set_cons_zero]
          refine lin_store (i := 3) (St w [⟨w.heap.size, [some (.int .u64 (tn (x0.lo))), some (.int .u64 (tn (x0.hi)))], 24⟩, ⟨w.heap.size + 1, [some (.int .u64 (tn (x1.lo))), some (.int .u64 (tn (x1.hi)))], 24⟩, ⟨w.heap.size + 2, [some (.int .u64 0), some (.int .u64 (tn (x0.hi)))], 24⟩]) rfl rfl (by rfl) (fun x => ((x.setCell ⟨w.heap.size + 2, 0, none⟩ (.int .u64 0)).setCell ⟨w.heap.size + 2, 1, none⟩ (.int .u64 (tn (x0.hi))))) (by intro x hx; obtain ⟨u0, z0⟩ := hx.has 2 0 rfl (by simp); have q0 := hx.soft 2 0 rfl; obtain ⟨u1, z1⟩ := hx.has 2 1 rfl (by simp); have q1 := hx.soft 2 1 rfl; go_simp; (first | done | rfl)) (fun x hx => ((hx.put 2 0 (.int .u64 0) rfl).put 2 1 (.int .u64 (tn (x0.hi))) rfl)) ?_
          refine lin_done ?_
          intro W3 hx
          replace HS := hid hx
          clear hx
          go_wp2
          have r0 := HS.out.load 2 0 rfl rfl
          have r1 := HS.out.load 2 1 rfl rfl
          have HF : ref_Mod x0 x1 = P.mk 0#64 x0.hi := by
            unfold ref_Mod
            rw [cond_f h1.out, cond_f h2.out, cond_f h3.out, cond_t h4.out]
          exact bodyPost_ret (v := .agg #[.int .u64 0, .int .u64 (tn (x0.hi))]) (by simp [results, Try.results34, go_sem, r0, r1]) rfl ⟨(by first | (rw [HF]; done) | (rw [HF]; rfl)), HS.out.below⟩
      · replace h3 := hid h3
        refine lin_no (i := 3) rfl rfl (by kernel_rfl) ?_
        simp only [List.set_cons_succ, List.set_cons_zero]
        refine lin_no (i := 4) rfl rfl (by kernel_rfl) ?_
        simp only [List.set_cons_succ, List.set_cons_zero]
        refine lin_no (i := 5) rfl rfl (by kernel_rfl) ?_
        simp only [List.set_cons_succ, List.set_cons_zero]
        refine lin_no (i := 6) rfl rfl (by kernel_rfl) ?_
        simp only [List.set_cons_succ, List.set_cons_zero]
        refine lin_no (i := 7) rfl rfl (by kernel_rfl) ?_
        simp only [List.set_cons_succ, List.set_cons_zero]
        refine lin_no (i := 8) rfl rfl (by kernel_rfl) ?_
        simp only [List.set_cons_succ, List.set_cons_zero]
        refine lin_val (i := 9) (v := .bool true) rfl rfl (by rfl) (by intro x hx; go_simp; (first | done | exact rfl)) ?_
        simp only [List.set_cons_succ, List.set_cons_zero]
        refine lin_done ?_
        intro W2 hx
        replace HS := hid hx
        clear hx
        -- region 4
        go_upto_region 4 with fail
        refine lin_begin (St w [⟨w.heap.size, [some (.int .u64 (tn (x0.lo))), some (.int .u64 (tn (x0.hi)))], 24⟩, ⟨w.heap.size + 1, [some (.int .u64 (tn (x1.lo))), some (.int .u64 (tn (x1.hi)))], 24⟩, ⟨w.heap.size + 2, [some (.int .u64 0), some (.int .u64 0)], 24⟩]) rfl HS.out ?_
        refine lin_val (i := 0) (v := .pointer (some ⟨w.heap.size, 1, none⟩)) rfl rfl (by rfl) (by intro x hx; go_simp; (first | done | exact rfl)) ?_
        simp only [List.set_cons_succ, List.set_cons_zero]
        refine lin_val (i := 1) (v := .int .u64 (tn (x0.hi))) rfl rfl (by rfl) (by intro x hx; have f0 := hx.load 0 1 rfl rfl; go_simp; (first | done | exact rfl)) ?_
        simp only [List.set_cons_succ, List.set_cons_zero]
        refine lin_val (i := 2) (v := .agg #[.int .u64 0, .int .u64 (tn (x0.hi))]) rfl rfl (by rfl) (by intro x hx; go_simp; (first | done | exact rfl)) ?_
        simp only [List.set_cons_succ, List.set_cons_zero]
        refine lin_store (i := 3) (St w [⟨w.heap.size, [some (.int .u64 (tn (x0.lo))), some (.int .u64 (tn (x0.hi)))], 24⟩, ⟨w.heap.size + 1, [some (.int .u64 (tn (x1.lo))), some (.int .u64 (tn (x1.hi)))], 24⟩, ⟨w.heap.size + 2, [some (.int .u64 0), some (.int .u64 (tn (x0.hi)))], 24⟩]) rfl rfl (by rfl) (fun x => ((x.setCell ⟨w.heap.size + 2, 0, none⟩ (.int .u64 0)).setCell ⟨w.heap.size + 2, 1, none⟩ (.int .u64 (tn (x0.hi))))) (by intro x hx; obtain ⟨u0, z0⟩ := hx.has 2 0 rfl (by simp); have q0 := hx.soft 2 0 rfl; obtain ⟨u1, z1⟩ := hx.has 2 1 rfl (by simp); have q1 := hx.soft 2 1 rfl; go_simp; (first | done | rfl)) (fun x hx => ((hx.put 2 0 (.int .u64 0) rfl).put 2 1 (.int .u64 (tn (x0.hi))) rfl)) ?_
        refine lin_done ?_
        intro W3 hx
        replace HS := hid hx
        clear hx
        go_wp2
        have r0 := HS.out.load 2 0 rfl rfl
        have r1 := HS.out.load 2 1 rfl rfl
        have HF : ref_Mod x0 x1 = P.mk 0#64 x0.hi := by
          unfold ref_Mod
          rw [cond_f h1.out, cond_f h2.out, cond_t h3.out]
        exact bodyPost_ret (v := .agg #[.int .u64 0, .int .u64 (tn (x0.hi))]) (by simp [results, Try.results34, go_sem, r0, r1]) rfl ⟨(by first | (rw [HF]; done) | (rw [HF]; rfl)), HS.out.below⟩
    · replace h2 := hid h2
      -- region 2
      go_upto_region 2 with fail
      refine lin_begin (St w [⟨w.heap.size, [some (.int .u64 (tn (x0.lo))), some (.int .u64 (tn (x0.hi)))], 24⟩, ⟨w.heap.size + 1, [some (.int .u64 (tn (x1.lo))), some (.int .u64 (tn (x1.hi)))], 24⟩, ⟨w.heap.size + 2, [some (.int .u64 0), some (.int .u64 0)], 24⟩]) rfl HS.out ?_
      refine lin_val (i := 0) (v := .agg #[.int .u64 (tn (x0.lo)), .int .u64 (tn (x0.hi))]) rfl rfl (by rfl) (by intro x hx; have f0 := hx.load 0 0 rfl rfl; have f1 := hx.load 0 1 rfl rfl; go_simp; (first | done | exact rfl)) ?_
      simp only [List.set_cons_succ, List.set_cons_zero]
      refine lin_store (i := 1) (St w [⟨w.heap.size, [some (.int .u64 (tn (x0.lo))), some (.int .u64 (tn (x0.hi)))], 24⟩, ⟨w.heap.size + 1, [some (.int .u64 (tn (x1.lo))), some (.int .u64 (tn (x1.hi)))], 24⟩, ⟨w.heap.size + 2, [some (.int .u64 (tn (x0.lo))), some (.int .u64 (tn (x0.hi)))], 24⟩]) rfl rfl (by rfl) (fun x => ((x.setCell ⟨w.heap.size + 2, 0, none⟩ (.int .u64 (tn (x0.lo)))).setCell ⟨w.heap.size + 2, 1, none⟩ (.int .u64 (tn (x0.hi))))) (by intro x hx; obtain ⟨u0, z0⟩ := hx.has 2 0 rfl (by simp); have q0 := hx.soft 2 0 rfl; obtain ⟨u1, z1⟩ := hx.has 2 1 rfl (by simp); have q1 := hx.soft 2 1 rfl; go_simp; (first | done | rfl)) (fun x hx => ((hx.put 2 0 (.int .u64 (tn (x0.lo))) rfl).put 2 1 (.int .u64 (tn (x0.hi))) rfl)) ?_
      refine lin_done ?_
      intro W2 hx
      replace HS := hid hx
      clear hx
      go_wp2
      have r0 := HS.out.load 2 0 rfl rfl
      have r1 := HS.out.load 2 1 rfl rfl
      have HF : ref_Mod x0 x1 = x0 := by
        unfold ref_Mod
        rw [cond_f h1.out, cond_t h2.out]
      exact bodyPost_ret (v := .agg #[.int .u64 (tn (x0.lo)), .int .u64 (tn (x0.hi))]) (by simp [results, Try.results34, go_sem, r0, r1]) rfl ⟨(by first | (rw [HF]; done) | (rw [HF]; rfl)), HS.out.below⟩
  · replace h1 := hid h1
    refine take_no (i := 4) (st_ups _ _) rfl rfl (by kernel_rfl) (fun _ _ _ h => h) (by kernel_rfl) ?_
    simp only [List.set_cons_succ, List.set_cons_zero]
    refine take_no (i := 5) (st_ups _ _) rfl rfl (by kernel_rfl) (fun _ _ _ h => h) (by kernel_rfl) ?_
    simp only [List.set_cons_succ, List.set_cons_zero]
    refine take_no (i := 6) (st_ups _ _) rfl rfl (by kernel_rfl) (fun _ _ _ h => h) (by kernel_rfl) ?_
    simp only [List.set_cons_succ, List.set_cons_zero]
    refine take_no (i := 7) (st_ups _ _) rfl rfl (by kernel_rfl) (fun _ _ _ h => h) (by kernel_rfl) ?_
    simp only [List.set_cons_succ, List.set_cons_zero]
    refine take_no (i := 8) (st_ups _ _) rfl rfl (by kernel_rfl) (fun _ _ _ h => h) (by kernel_rfl) ?_
    simp only [List.set_cons_succ, List.set_cons_zero]
    refine take_val (i := 9) (v := .bool true) (st_ups _ _) rfl rfl (by kernel_rfl) (fun _ _ _ h => h) (by rfl) (by intro x hx; go_simp; (first | done | exact rfl)) ?_
    simp only [List.set_cons_succ, List.set_cons_zero]
    refine take_done (by kernel_rfl) ?_ _
    intro W1 hx
    replace HS := hid hx
    clear hx
    -- region 2
    go_upto_region 2 with fail
    refine lin_begin (St w [⟨w.heap.size, [some (.int .u64 (tn (x0.lo))), some (.int .u64 (tn (x0.hi)))], 24⟩, ⟨w.heap.size + 1, [some (.int .u64 (tn (x1.lo))), some (.int .u64 (tn (x1.hi)))], 24⟩, ⟨w.heap.size + 2, [some (.int .u64 0), some (.int .u64 0)], 24⟩]) rfl HS.out ?_
    refine lin_val (i := 0) (v := .agg #[.int .u64 (tn (x0.lo)), .int .u64 (tn (x0.hi))]) rfl rfl (by rfl) (by intro x hx; have f0 := hx.load 0 0 rfl rfl; have f1 := hx.load 0 1 rfl rfl; go_simp; (first | done | exact rfl)) ?_
    simp only [List.set_cons_succ, List.set_cons_zero]
    refine lin_store (i := 1) (St w [⟨w.heap.size, [some (.int .u64 (tn (x0.lo))), some (.int .u64 (tn (x0.hi)))], 24⟩, ⟨w.heap.size + 1, [some (.int .u64 (tn (x1.lo))), some (.int .u64 (tn (x1.hi)))], 24⟩, ⟨w.heap.size + 2, [some (.int .u64 (tn (x0.lo))), some (.int .u64 (tn (x0.hi)))], 24⟩]) rfl rfl (by rfl) (fun x => ((x.setCell ⟨w.heap.size + 2, 0, none⟩ (.int .u64 (tn (x0.lo)))).setCell ⟨w.heap.size + 2, 1, none⟩ (.int .u64 (tn (x0.hi))))) (by intro x hx; obtain ⟨u0, z0⟩ := hx.has 2 0 rfl (by simp); have q0 := hx.soft 2 0 rfl; obtain ⟨u1, z1⟩ := hx.has 2 1 rfl (by simp); have q1 := hx.soft 2 1 rfl; go_simp; (first | done | rfl)) (fun x hx => ((hx.put 2 0 (.int .u64 (tn (x0.lo))) rfl).put 2 1 (.int .u64 (tn (x0.hi))) rfl)) ?_
    refine lin_done ?_
    intro W2 hx
    replace HS := hid hx
    clear hx
    go_wp2
    have r0 := HS.out.load 2 0 rfl rfl
    have r1 := HS.out.load 2 1 rfl rfl
    have HF : ref_Mod x0 x1 = x0 := by
      unfold ref_Mod
      rw [cond_t h1.out]
    exact bodyPost_ret (v := .agg #[.int .u64 (tn (x0.lo)), .int .u64 (tn (x0.hi))]) (by simp [results, Try.results34, go_sem, r0, r1]) rfl ⟨(by first | (rw [HF]; done) | (rw [HF]; rfl)), HS.out.below⟩
end Go.Proofs.Ytoojdndfjfmemaa.Sp
