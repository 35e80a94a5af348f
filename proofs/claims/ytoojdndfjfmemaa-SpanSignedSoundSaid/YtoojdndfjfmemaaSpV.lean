/-
  The walk of the law SpanSignedSound.
-/
import Derived.Deep.DeepCutAuto
import Derived.Test.YtoojdndfjfmemaaSpF
import Derived.Test.YtoojdndfjfmemaaSpT
import Derived.Test.YtoojdndfjfmemaaSpU
import Derived.Test.YtoojdndfjfmemaaSpP
import Derived.Test.YtoojdndfjfmemaaIf
namespace Go.Proofs.Ytoojdndfjfmemaa.Sp
open Go.RowKit Go.Proofs.Ytoojdndfjfmemaa.Num Go.Proofs.Ytoojdndfjfmemaa.Up
theorem smm (x y : BitVec 64) : ti (minI x y) ≤ ti (maxI x y) := by
  have := smin_le x y; have := smax_ge x y; omega
theorem sins {l h : BitVec 64} (hl : ti l ≤ ti h) (v : BitVec 64) : inZ (P.mk l h) (l + insideV (P.mk 0#64 (h - l)) v) :=
  sinside_in hl (inside_ok (a := P.mk 0#64 (h - l)) (tn_lo _) v)
set_option maxRecDepth 100000 in
set_option maxHeartbeats 8000000 in
theorem spanSignedSound (x0 : Near) (x1 : BitVec 64)  (w : World) :
    Calls Try.prog 7 #[.agg #[.int .u64 (tn (x0.A.lo)), .int .u64 (tn (x0.A.hi)), .int .u64 (tn (x0.B.lo)), .int .u64 (tn (x0.B.hi)), .int .u64 (tn (x0.V)), .int .u64 (tn (x0.W)), .int .i64 (ti (x0.N))], .int .u64 (tn (x1))] w fun e w' => e = .returned (.bool true) ∧ Below w.heap.size w w' := by
  have HA := hid (sins (smm x0.A.lo x0.A.hi) x0.V)
  have HB := hid (sins (smm x0.B.lo x0.B.hi) x0.W)
  go_enter Try.func7, Try.ntmps7
  have HS := hid ((st_nil w).alloc (k := w.heap.size) rfl [.int .u64 (tn (x0.A.lo)), .int .u64 (tn (x0.A.hi)), .int .u64 (tn (x0.B.lo)), .int .u64 (tn (x0.B.hi)), .int .u64 (tn (x0.V)), .int .u64 (tn (x0.W)), .int .i64 (ti (x0.N))] 60)
  -- region 1
  go_upto_region 1 with fail
  refine lin_begin (St w [⟨w.heap.size, [some (.int .u64 (tn (x0.A.lo))), some (.int .u64 (tn (x0.A.hi))), some (.int .u64 (tn (x0.B.lo))), some (.int .u64 (tn (x0.B.hi))), some (.int .u64 (tn (x0.V))), some (.int .u64 (tn (x0.W))), some (.int .i64 (ti (x0.N)))], 60⟩]) rfl HS.out ?_
  refine lin_val (i := 0) (v := .pointer (some ⟨w.heap.size, 0, none⟩)) rfl rfl (by rfl) (by intro x hx; go_simp; (first | done | exact rfl)) ?_
  simp only [List.set_cons_succ, List.set_cons_zero]
  refine lin_val (i := 1) (v := .pointer (some ⟨w.heap.size, 0, none⟩)) rfl rfl (by rfl) (by intro x hx; go_simp; (first | done | exact rfl)) ?_
  simp only [List.set_cons_succ, List.set_cons_zero]
  refine lin_val (i := 2) (v := .int .u64 (tn (x0.A.lo))) rfl rfl (by rfl) (by intro x hx; have f0 := hx.load 0 0 rfl rfl; go_simp; (first | done | exact rfl)) ?_
  simp only [List.set_cons_succ, List.set_cons_zero]
  refine lin_val (i := 3) (v := .int .i64 (ti (x0.A.lo))) rfl rfl (by rfl) (by intro x hx; go_simp; (first | done | exact toI64 x0.A.lo | exact congrArg _ (toI64 x0.A.lo) | (rw [toI64 x0.A.lo]; done) | (rw [toI64 x0.A.lo]; rfl))) ?_
  simp only [List.set_cons_succ, List.set_cons_zero]
  refine lin_val (i := 4) (v := .pointer (some ⟨w.heap.size, 0, none⟩)) rfl rfl (by rfl) (by intro x hx; go_simp; (first | done | exact rfl)) ?_
  simp only [List.set_cons_succ, List.set_cons_zero]
  refine lin_val (i := 5) (v := .pointer (some ⟨w.heap.size, 1, none⟩)) rfl rfl (by rfl) (by intro x hx; go_simp; (first | done | exact rfl)) ?_
  simp only [List.set_cons_succ, List.set_cons_zero]
  refine lin_val (i := 6) (v := .int .u64 (tn (x0.A.hi))) rfl rfl (by rfl) (by intro x hx; have f0 := hx.load 0 1 rfl rfl; go_simp; (first | done | exact rfl)) ?_
  simp only [List.set_cons_succ, List.set_cons_zero]
  refine lin_val (i := 7) (v := .int .i64 (ti (x0.A.hi))) rfl rfl (by rfl) (by intro x hx; go_simp; (first | done | exact toI64 x0.A.hi | exact congrArg _ (toI64 x0.A.hi) | (rw [toI64 x0.A.hi]; done) | (rw [toI64 x0.A.hi]; rfl))) ?_
  simp only [List.set_cons_succ, List.set_cons_zero]
  refine lin_val (i := 8) (v := .int .i64 (ti (minI x0.A.lo x0.A.hi))) rfl rfl (by rfl) (by intro x hx; go_simp; (first | done | exact minIT x0.A.lo x0.A.hi)) ?_
  simp only [List.set_cons_succ, List.set_cons_zero]
  refine lin_val (i := 9) (v := .pointer (some ⟨w.heap.size, 0, none⟩)) rfl rfl (by rfl) (by intro x hx; go_simp; (first | done | exact rfl)) ?_
  simp only [List.set_cons_succ, List.set_cons_zero]
  refine lin_val (i := 10) (v := .pointer (some ⟨w.heap.size, 0, none⟩)) rfl rfl (by rfl) (by intro x hx; go_simp; (first | done | exact rfl)) ?_
  simp only [List.set_cons_succ, List.set_cons_zero]
  refine lin_val (i := 11) (v := .int .u64 (tn (x0.A.lo))) rfl rfl (by rfl) (by intro x hx; have f0 := hx.load 0 0 rfl rfl; go_simp; (first | done | exact rfl)) ?_
  simp only [List.set_cons_succ, List.set_cons_zero]
  refine lin_val (i := 12) (v := .int .i64 (ti (x0.A.lo))) rfl rfl (by rfl) (by intro x hx; go_simp; (first | done | exact toI64 x0.A.lo | exact congrArg _ (toI64 x0.A.lo) | (rw [toI64 x0.A.lo]; done) | (rw [toI64 x0.A.lo]; rfl))) ?_
  simp only [List.set_cons_succ, List.set_cons_zero]
  refine lin_val (i := 13) (v := .pointer (some ⟨w.heap.size, 0, none⟩)) rfl rfl (by rfl) (by intro x hx; go_simp; (first | done | exact rfl)) ?_
  simp only [List.set_cons_succ, List.set_cons_zero]
  refine lin_val (i := 14) (v := .pointer (some ⟨w.heap.size, 1, none⟩)) rfl rfl (by rfl) (by intro x hx; go_simp; (first | done | exact rfl)) ?_
  simp only [List.set_cons_succ, List.set_cons_zero]
  refine lin_val (i := 15) (v := .int .u64 (tn (x0.A.hi))) rfl rfl (by rfl) (by intro x hx; have f0 := hx.load 0 1 rfl rfl; go_simp; (first | done | exact rfl)) ?_
  simp only [List.set_cons_succ, List.set_cons_zero]
  refine lin_val (i := 16) (v := .int .i64 (ti (x0.A.hi))) rfl rfl (by rfl) (by intro x hx; go_simp; (first | done | exact toI64 x0.A.hi | exact congrArg _ (toI64 x0.A.hi) | (rw [toI64 x0.A.hi]; done) | (rw [toI64 x0.A.hi]; rfl))) ?_
  simp only [List.set_cons_succ, List.set_cons_zero]
  refine lin_val (i := 17) (v := .int .i64 (ti (maxI x0.A.lo x0.A.hi))) rfl rfl (by rfl) (by intro x hx; go_simp; (first | done | exact maxIT x0.A.lo x0.A.hi)) ?_
  simp only [List.set_cons_succ, List.set_cons_zero]
  refine lin_val (i := 18) (v := .agg #[.int .i64 (ti (minI x0.A.lo x0.A.hi)), .int .i64 (ti (maxI x0.A.lo x0.A.hi))]) rfl rfl (by rfl) (by intro x hx; go_simp; (first | done | exact rfl)) ?_
  simp only [List.set_cons_succ, List.set_cons_zero]
  refine lin_new (i := 19) rfl rfl (by rfl) [.int .i64 0, .int .i64 0] 38 (fun k => .pointer (some ⟨k, 0, none⟩)) [some (.int .i64 0), some (.int .i64 0)] (lessC_eq (lessC_eq (trivial))) (by intro x hx; go_simp; (first | done | exact rfl)) (fun k1 => ?_)
  simp only [List.set_cons_succ, List.set_cons_zero]
  refine lin_store (i := 20) (St w [⟨w.heap.size, [some (.int .u64 (tn (x0.A.lo))), some (.int .u64 (tn (x0.A.hi))), some (.int .u64 (tn (x0.B.lo))), some (.int .u64 (tn (x0.B.hi))), some (.int .u64 (tn (x0.V))), some (.int .u64 (tn (x0.W))), some (.int .i64 (ti (x0.N)))], 60⟩, ⟨k1, [some (.int .i64 (ti (minI x0.A.lo x0.A.hi))), some (.int .i64 (ti (maxI x0.A.lo x0.A.hi)))], 38⟩]) rfl rfl (by rfl) (fun x => ((x.setCell ⟨k1, 0, none⟩ (.int .i64 (ti (minI x0.A.lo x0.A.hi)))).setCell ⟨k1, 1, none⟩ (.int .i64 (ti (maxI x0.A.lo x0.A.hi))))) (by intro x hx; obtain ⟨u0, z0⟩ := hx.has 1 0 rfl (by simp); have q0 := hx.soft 1 0 rfl; obtain ⟨u1, z1⟩ := hx.has 1 1 rfl (by simp); have q1 := hx.soft 1 1 rfl; go_simp; (first | done | rfl)) (fun x hx => ((hx.put 1 0 (.int .i64 (ti (minI x0.A.lo x0.A.hi))) rfl).put 1 1 (.int .i64 (ti (maxI x0.A.lo x0.A.hi))) rfl)) ?_
  refine lin_done ?_
  intro W1 hx
  replace HS := hid hx
  clear hx
  -- region 2
  go_upto_region 2 with fail
  refine lin_begin (St w [⟨w.heap.size, [some (.int .u64 (tn (x0.A.lo))), some (.int .u64 (tn (x0.A.hi))), some (.int .u64 (tn (x0.B.lo))), some (.int .u64 (tn (x0.B.hi))), some (.int .u64 (tn (x0.V))), some (.int .u64 (tn (x0.W))), some (.int .i64 (ti (x0.N)))], 60⟩, ⟨k1, [some (.int .i64 (ti (minI x0.A.lo x0.A.hi))), some (.int .i64 (ti (maxI x0.A.lo x0.A.hi)))], 38⟩]) rfl HS.out ?_
  refine lin_val (i := 0) (v := .pointer (some ⟨w.heap.size, 2, none⟩)) rfl rfl (by rfl) (by intro x hx; go_simp; (first | done | exact rfl)) ?_
  simp only [List.set_cons_succ, List.set_cons_zero]
  refine lin_val (i := 1) (v := .pointer (some ⟨w.heap.size, 2, none⟩)) rfl rfl (by rfl) (by intro x hx; go_simp; (first | done | exact rfl)) ?_
  simp only [List.set_cons_succ, List.set_cons_zero]
  refine lin_val (i := 2) (v := .int .u64 (tn (x0.B.lo))) rfl rfl (by rfl) (by intro x hx; have f0 := hx.load 0 2 rfl rfl; go_simp; (first | done | exact rfl)) ?_
  simp only [List.set_cons_succ, List.set_cons_zero]
  refine lin_val (i := 3) (v := .int .i64 (ti (x0.B.lo))) rfl rfl (by rfl) (by intro x hx; go_simp; (first | done | exact toI64 x0.B.lo | exact congrArg _ (toI64 x0.B.lo) | (rw [toI64 x0.B.lo]; done) | (rw [toI64 x0.B.lo]; rfl))) ?_
  simp only [List.set_cons_succ, List.set_cons_zero]
  refine lin_val (i := 4) (v := .pointer (some ⟨w.heap.size, 2, none⟩)) rfl rfl (by rfl) (by intro x hx; go_simp; (first | done | exact rfl)) ?_
  simp only [List.set_cons_succ, List.set_cons_zero]
  refine lin_val (i := 5) (v := .pointer (some ⟨w.heap.size, 3, none⟩)) rfl rfl (by rfl) (by intro x hx; go_simp; (first | done | exact rfl)) ?_
  simp only [List.set_cons_succ, List.set_cons_zero]
  refine lin_val (i := 6) (v := .int .u64 (tn (x0.B.hi))) rfl rfl (by rfl) (by intro x hx; have f0 := hx.load 0 3 rfl rfl; go_simp; (first | done | exact rfl)) ?_
  simp only [List.set_cons_succ, List.set_cons_zero]
  refine lin_val (i := 7) (v := .int .i64 (ti (x0.B.hi))) rfl rfl (by rfl) (by intro x hx; go_simp; (first | done | exact toI64 x0.B.hi | exact congrArg _ (toI64 x0.B.hi) | (rw [toI64 x0.B.hi]; done) | (rw [toI64 x0.B.hi]; rfl))) ?_
  simp only [List.set_cons_succ, List.set_cons_zero]
  refine lin_val (i := 8) (v := .int .i64 (ti (minI x0.B.lo x0.B.hi))) rfl rfl (by rfl) (by intro x hx; go_simp; (first | done | exact minIT x0.B.lo x0.B.hi)) ?_
  simp only [List.set_cons_succ, List.set_cons_zero]
  refine lin_val (i := 9) (v := .pointer (some ⟨w.heap.size, 2, none⟩)) rfl rfl (by rfl) (by intro x hx; go_simp; (first | done | exact rfl)) ?_
  simp only [List.set_cons_succ, List.set_cons_zero]
  refine lin_val (i := 10) (v := .pointer (some ⟨w.heap.size, 2, none⟩)) rfl rfl (by rfl) (by intro x hx; go_simp; (first | done | exact rfl)) ?_
  simp only [List.set_cons_succ, List.set_cons_zero]
  refine lin_val (i := 11) (v := .int .u64 (tn (x0.B.lo))) rfl rfl (by rfl) (by intro x hx; have f0 := hx.load 0 2 rfl rfl; go_simp; (first | done | exact rfl)) ?_
  simp only [List.set_cons_succ, List.set_cons_zero]
  refine lin_val (i := 12) (v := .int .i64 (ti (x0.B.lo))) rfl rfl (by rfl) (by intro x hx; go_simp; (first | done | exact toI64 x0.B.lo | exact congrArg _ (toI64 x0.B.lo) | (rw [toI64 x0.B.lo]; done) | (rw [toI64 x0.B.lo]; rfl))) ?_
  simp only [List.set_cons_succ, List.set_cons_zero]
  refine lin_val (i := 13) (v := .pointer (some ⟨w.heap.size, 2, none⟩)) rfl rfl (by rfl) (by intro x hx; go_simp; (first | done | exact rfl)) ?_
  simp only [List.set_cons_succ, List.set_cons_zero]
  refine lin_val (i := 14) (v := .pointer (some ⟨w.heap.size, 3, none⟩)) rfl rfl (by rfl) (by intro x hx; go_simp; (first | done | exact rfl)) ?_
  simp only [List.set_cons_succ, List.set_cons_zero]
  refine lin_val (i := 15) (v := .int .u64 (tn (x0.B.hi))) rfl rfl (by rfl) (by intro x hx; have f0 := hx.load 0 3 rfl rfl; go_simp; (first | done | exact rfl)) ?_
  simp only [List.set_cons_succ, List.set_cons_zero]
  refine lin_val (i := 16) (v := .int .i64 (ti (x0.B.hi))) rfl rfl (by rfl) (by intro x hx; go_simp; (first | done | exact toI64 x0.B.hi | exact congrArg _ (toI64 x0.B.hi) | (rw [toI64 x0.B.hi]; done) | (rw [toI64 x0.B.hi]; rfl))) ?_
  simp only [List.set_cons_succ, List.set_cons_zero]
  refine lin_val (i := 17) (v := .int .i64 (ti (maxI x0.B.lo x0.B.hi))) rfl rfl (by rfl) (by intro x hx; go_simp; (first | done | exact maxIT x0.B.lo x0.B.hi)) ?_
  simp only [List.set_cons_succ, List.set_cons_zero]
  refine lin_val (i := 18) (v := .agg #[.int .i64 (ti (minI x0.B.lo x0.B.hi)), .int .i64 (ti (maxI x0.B.lo x0.B.hi))]) rfl rfl (by rfl) (by intro x hx; go_simp; (first | done | exact rfl)) ?_
  simp only [List.set_cons_succ, List.set_cons_zero]
  refine lin_new (i := 19) rfl rfl (by rfl) [.int .i64 0, .int .i64 0] 38 (fun k => .pointer (some ⟨k, 0, none⟩)) [some (.int .i64 0), some (.int .i64 0)] (lessC_eq (lessC_eq (trivial))) (by intro x hx; go_simp; (first | done | exact rfl)) (fun k2 => ?_)
  simp only [List.set_cons_succ, List.set_cons_zero]
  refine lin_store (i := 20) (St w [⟨w.heap.size, [some (.int .u64 (tn (x0.A.lo))), some (.int .u64 (tn (x0.A.hi))), some (.int .u64 (tn (x0.B.lo))), some (.int .u64 (tn (x0.B.hi))), some (.int .u64 (tn (x0.V))), some (.int .u64 (tn (x0.W))), some (.int .i64 (ti (x0.N)))], 60⟩, ⟨k1, [some (.int .i64 (ti (minI x0.A.lo x0.A.hi))), some (.int .i64 (ti (maxI x0.A.lo x0.A.hi)))], 38⟩, ⟨k2, [some (.int .i64 (ti (minI x0.B.lo x0.B.hi))), some (.int .i64 (ti (maxI x0.B.lo x0.B.hi)))], 38⟩]) rfl rfl (by rfl) (fun x => ((x.setCell ⟨k2, 0, none⟩ (.int .i64 (ti (minI x0.B.lo x0.B.hi)))).setCell ⟨k2, 1, none⟩ (.int .i64 (ti (maxI x0.B.lo x0.B.hi))))) (by intro x hx; obtain ⟨u0, z0⟩ := hx.has 2 0 rfl (by simp); have q0 := hx.soft 2 0 rfl; obtain ⟨u1, z1⟩ := hx.has 2 1 rfl (by simp); have q1 := hx.soft 2 1 rfl; go_simp; (first | done | rfl)) (fun x hx => ((hx.put 2 0 (.int .i64 (ti (minI x0.B.lo x0.B.hi))) rfl).put 2 1 (.int .i64 (ti (maxI x0.B.lo x0.B.hi))) rfl)) ?_
  refine lin_done ?_
  intro W2 hx
  replace HS := hid hx
  clear hx
  -- region 3
  go_upto_region 3 with fail
  refine up_begin (St w [⟨w.heap.size, [some (.int .u64 (tn (x0.A.lo))), some (.int .u64 (tn (x0.A.hi))), some (.int .u64 (tn (x0.B.lo))), some (.int .u64 (tn (x0.B.hi))), some (.int .u64 (tn (x0.V))), some (.int .u64 (tn (x0.W))), some (.int .i64 (ti (x0.N)))], 60⟩, ⟨k1, [some (.int .i64 (ti (minI x0.A.lo x0.A.hi))), some (.int .i64 (ti (maxI x0.A.lo x0.A.hi)))], 38⟩, ⟨k2, [some (.int .i64 (ti (minI x0.B.lo x0.B.hi))), some (.int .i64 (ti (maxI x0.B.lo x0.B.hi)))], 38⟩]) 16 rfl (by kernel_rfl) (HS.out.drew) ?_
  refine take_val (i := 0) (v := .pointer (some ⟨k1, 0, none⟩)) (st_ups _ _) rfl rfl (by kernel_rfl) (fun _ _ _ h => h) (by rfl) (by intro x hx; go_simp; (first | done | exact rfl)) ?_
  simp only [List.set_cons_succ, List.set_cons_zero]
  refine take_val (i := 1) (v := .int .i64 (ti (minI x0.A.lo x0.A.hi))) (st_ups _ _) rfl rfl (by kernel_rfl) (fun _ _ _ h => h) (by rfl) (by intro x hx; have f0 := hx.load 1 0 rfl rfl; go_simp; (first | done | exact rfl)) ?_
  simp only [List.set_cons_succ, List.set_cons_zero]
  refine take_val (i := 2) (v := .pointer (some ⟨k1, 1, none⟩)) (st_ups _ _) rfl rfl (by kernel_rfl) (fun _ _ _ h => h) (by rfl) (by intro x hx; go_simp; (first | done | exact rfl)) ?_
  simp only [List.set_cons_succ, List.set_cons_zero]
  refine take_val (i := 3) (v := .int .i64 (ti (maxI x0.A.lo x0.A.hi))) (st_ups _ _) rfl rfl (by kernel_rfl) (fun _ _ _ h => h) (by rfl) (by intro x hx; have f0 := hx.load 1 1 rfl rfl; go_simp; (first | done | exact rfl)) ?_
  simp only [List.set_cons_succ, List.set_cons_zero]
  refine take_val (i := 4) (v := .int .u64 (tn (maxI x0.A.lo x0.A.hi))) (st_ups _ _) rfl rfl (by kernel_rfl) (fun _ _ _ h => h) (by rfl) (by intro x hx; go_simp; (first | done | exact backI (maxI x0.A.lo x0.A.hi) | exact congrArg _ (backI (maxI x0.A.lo x0.A.hi)) | (rw [backI (maxI x0.A.lo x0.A.hi)]; done) | (rw [backI (maxI x0.A.lo x0.A.hi)]; rfl))) ?_
  simp only [List.set_cons_succ, List.set_cons_zero]
  refine take_val (i := 5) (v := .pointer (some ⟨k1, 0, none⟩)) (st_ups _ _) rfl rfl (by kernel_rfl) (fun _ _ _ h => h) (by rfl) (by intro x hx; go_simp; (first | done | exact rfl)) ?_
  simp only [List.set_cons_succ, List.set_cons_zero]
  refine take_val (i := 6) (v := .int .i64 (ti (minI x0.A.lo x0.A.hi))) (st_ups _ _) rfl rfl (by kernel_rfl) (fun _ _ _ h => h) (by rfl) (by intro x hx; have f0 := hx.load 1 0 rfl rfl; go_simp; (first | done | exact rfl)) ?_
  simp only [List.set_cons_succ, List.set_cons_zero]
  refine take_val (i := 7) (v := .int .u64 (tn (minI x0.A.lo x0.A.hi))) (st_ups _ _) rfl rfl (by kernel_rfl) (fun _ _ _ h => h) (by rfl) (by intro x hx; go_simp; (first | done | exact backI (minI x0.A.lo x0.A.hi) | exact congrArg _ (backI (minI x0.A.lo x0.A.hi)) | (rw [backI (minI x0.A.lo x0.A.hi)]; done) | (rw [backI (minI x0.A.lo x0.A.hi)]; rfl))) ?_
  simp only [List.set_cons_succ, List.set_cons_zero]
  refine take_val (i := 8) (v := .int .u64 (tn ((maxI x0.A.lo x0.A.hi) - (minI x0.A.lo x0.A.hi)))) (st_ups _ _) rfl rfl (by kernel_rfl) (fun _ _ _ h => h) (by rfl) (by intro x hx; go_simp; (first | done | exact subUT (maxI x0.A.lo x0.A.hi) (minI x0.A.lo x0.A.hi) | exact congrArg _ (subUT (maxI x0.A.lo x0.A.hi) (minI x0.A.lo x0.A.hi)) | (rw [subUT (maxI x0.A.lo x0.A.hi) (minI x0.A.lo x0.A.hi)]; done) | (rw [subUT (maxI x0.A.lo x0.A.hi) (minI x0.A.lo x0.A.hi)]; rfl))) ?_
  simp only [List.set_cons_succ, List.set_cons_zero]
  refine take_val (i := 9) (v := .agg #[.int .u64 0, .int .u64 (tn ((maxI x0.A.lo x0.A.hi) - (minI x0.A.lo x0.A.hi)))]) (st_ups _ _) rfl rfl (by kernel_rfl) (fun _ _ _ h => h) (by rfl) (by intro x hx; go_simp; (first | done | exact rfl)) ?_
  simp only [List.set_cons_succ, List.set_cons_zero]
  refine take_val (i := 10) (v := .pointer (some ⟨w.heap.size, 4, none⟩)) (st_ups _ _) rfl rfl (by kernel_rfl) (fun _ _ _ h => h) (by rfl) (by intro x hx; go_simp; (first | done | exact rfl)) ?_
  simp only [List.set_cons_succ, List.set_cons_zero]
  refine take_val (i := 11) (v := .int .u64 (tn (x0.V))) (st_ups _ _) rfl rfl (by kernel_rfl) (fun _ _ _ h => h) (by rfl) (by intro x hx; have f0 := hx.load 0 4 rfl rfl; go_simp; (first | done | exact rfl)) ?_
  simp only [List.set_cons_succ, List.set_cons_zero]
  refine take_call (i := 12) (f := 80) (args := #[.agg #[.int .u64 (tn (0#64)), .int .u64 (tn ((maxI x0.A.lo x0.A.hi) - (minI x0.A.lo x0.A.hi)))], .int .u64 (tn (x0.V))]) (v := .int .u64 (tn (insideV (P.mk 0#64 ((maxI x0.A.lo x0.A.hi) - (minI x0.A.lo x0.A.hi))) x0.V))) (st_ups _ _) rfl rfl (by kernel_rfl) (fun _ _ _ h => h) (by rfl) (fun x hx => by kernel_rfl) (by intro x hx; exact insideV_any (P.mk 0#64 ((maxI x0.A.lo x0.A.hi) - (minI x0.A.lo x0.A.hi))) x0.V _) ?_
  simp only [List.set_cons_succ, List.set_cons_zero]
  refine take_val (i := 13) (v := .int .i64 (ti (insideV (P.mk 0#64 ((maxI x0.A.lo x0.A.hi) - (minI x0.A.lo x0.A.hi))) x0.V))) (st_ups _ _) rfl rfl (by kernel_rfl) (fun _ _ _ h => h) (by rfl) (by intro x hx; go_simp; (first | done | exact toI64 (insideV (P.mk 0#64 ((maxI x0.A.lo x0.A.hi) - (minI x0.A.lo x0.A.hi))) x0.V) | exact congrArg _ (toI64 (insideV (P.mk 0#64 ((maxI x0.A.lo x0.A.hi) - (minI x0.A.lo x0.A.hi))) x0.V)) | (rw [toI64 (insideV (P.mk 0#64 ((maxI x0.A.lo x0.A.hi) - (minI x0.A.lo x0.A.hi))) x0.V)]; done) | (rw [toI64 (insideV (P.mk 0#64 ((maxI x0.A.lo x0.A.hi) - (minI x0.A.lo x0.A.hi))) x0.V)]; rfl))) ?_
  simp only [List.set_cons_succ, List.set_cons_zero]
  refine take_val (i := 14) (v := .int .i64 (ti ((minI x0.A.lo x0.A.hi) + (insideV (P.mk 0#64 ((maxI x0.A.lo x0.A.hi) - (minI x0.A.lo x0.A.hi))) x0.V)))) (st_ups _ _) rfl rfl (by kernel_rfl) (fun _ _ _ h => h) (by rfl) (by intro x hx; go_simp; (first | done | exact addIT (minI x0.A.lo x0.A.hi) (insideV (P.mk 0#64 ((maxI x0.A.lo x0.A.hi) - (minI x0.A.lo x0.A.hi))) x0.V) | exact congrArg _ (addIT (minI x0.A.lo x0.A.hi) (insideV (P.mk 0#64 ((maxI x0.A.lo x0.A.hi) - (minI x0.A.lo x0.A.hi))) x0.V)) | (rw [addIT (minI x0.A.lo x0.A.hi) (insideV (P.mk 0#64 ((maxI x0.A.lo x0.A.hi) - (minI x0.A.lo x0.A.hi))) x0.V)]; done) | (rw [addIT (minI x0.A.lo x0.A.hi) (insideV (P.mk 0#64 ((maxI x0.A.lo x0.A.hi) - (minI x0.A.lo x0.A.hi))) x0.V)]; rfl))) ?_
  simp only [List.set_cons_succ, List.set_cons_zero]
  refine take_val (i := 15) (v := .int .i64 (ti ((minI x0.A.lo x0.A.hi) + (insideV (P.mk 0#64 ((maxI x0.A.lo x0.A.hi) - (minI x0.A.lo x0.A.hi))) x0.V)))) (st_ups _ _) rfl rfl (by kernel_rfl) (fun _ _ _ h => h) (by rfl) (by intro x hx; go_simp; (first | done | exact rfl)) ?_
  simp only [List.set_cons_succ, List.set_cons_zero]
  refine take_done (by kernel_rfl) ?_ _
  intro W3 hx
  replace HS := hid hx
  clear hx
  -- region 4
  go_upto_region 4 with fail
  refine up_begin (St w [⟨w.heap.size, [some (.int .u64 (tn (x0.A.lo))), some (.int .u64 (tn (x0.A.hi))), some (.int .u64 (tn (x0.B.lo))), some (.int .u64 (tn (x0.B.hi))), some (.int .u64 (tn (x0.V))), some (.int .u64 (tn (x0.W))), some (.int .i64 (ti (x0.N)))], 60⟩, ⟨k1, [some (.int .i64 (ti (minI x0.A.lo x0.A.hi))), some (.int .i64 (ti (maxI x0.A.lo x0.A.hi)))], 38⟩, ⟨k2, [some (.int .i64 (ti (minI x0.B.lo x0.B.hi))), some (.int .i64 (ti (maxI x0.B.lo x0.B.hi)))], 38⟩]) 16 rfl (by kernel_rfl) (HS.out.drew) ?_
  refine take_val (i := 0) (v := .pointer (some ⟨k2, 0, none⟩)) (st_ups _ _) rfl rfl (by kernel_rfl) (fun _ _ _ h => h) (by rfl) (by intro x hx; go_simp; (first | done | exact rfl)) ?_
  simp only [List.set_cons_succ, List.set_cons_zero]
  refine take_val (i := 1) (v := .int .i64 (ti (minI x0.B.lo x0.B.hi))) (st_ups _ _) rfl rfl (by kernel_rfl) (fun _ _ _ h => h) (by rfl) (by intro x hx; have f0 := hx.load 2 0 rfl rfl; go_simp; (first | done | exact rfl)) ?_
  simp only [List.set_cons_succ, List.set_cons_zero]
  refine take_val (i := 2) (v := .pointer (some ⟨k2, 1, none⟩)) (st_ups _ _) rfl rfl (by kernel_rfl) (fun _ _ _ h => h) (by rfl) (by intro x hx; go_simp; (first | done | exact rfl)) ?_
  simp only [List.set_cons_succ, List.set_cons_zero]
  refine take_val (i := 3) (v := .int .i64 (ti (maxI x0.B.lo x0.B.hi))) (st_ups _ _) rfl rfl (by kernel_rfl) (fun _ _ _ h => h) (by rfl) (by intro x hx; have f0 := hx.load 2 1 rfl rfl; go_simp; (first | done | exact rfl)) ?_
  simp only [List.set_cons_succ, List.set_cons_zero]
  refine take_val (i := 4) (v := .int .u64 (tn (maxI x0.B.lo x0.B.hi))) (st_ups _ _) rfl rfl (by kernel_rfl) (fun _ _ _ h => h) (by rfl) (by intro x hx; go_simp; (first | done | exact backI (maxI x0.B.lo x0.B.hi) | exact congrArg _ (backI (maxI x0.B.lo x0.B.hi)) | (rw [backI (maxI x0.B.lo x0.B.hi)]; done) | (rw [backI (maxI x0.B.lo x0.B.hi)]; rfl))) ?_
  simp only [List.set_cons_succ, List.set_cons_zero]
  refine take_val (i := 5) (v := .pointer (some ⟨k2, 0, none⟩)) (st_ups _ _) rfl rfl (by kernel_rfl) (fun _ _ _ h => h) (by rfl) (by intro x hx; go_simp; (first | done | exact rfl)) ?_
  simp only [List.set_cons_succ, List.set_cons_zero]
  refine take_val (i := 6) (v := .int .i64 (ti (minI x0.B.lo x0.B.hi))) (st_ups _ _) rfl rfl (by kernel_rfl) (fun _ _ _ h => h) (by rfl) (by intro x hx; have f0 := hx.load 2 0 rfl rfl; go_simp; (first | done | exact rfl)) ?_
  simp only [List.set_cons_succ, List.set_cons_zero]
  refine take_val (i := 7) (v := .int .u64 (tn (minI x0.B.lo x0.B.hi))) (st_ups _ _) rfl rfl (by kernel_rfl) (fun _ _ _ h => h) (by rfl) (by intro x hx; go_simp; (first | done | exact backI (minI x0.B.lo x0.B.hi) | exact congrArg _ (backI (minI x0.B.lo x0.B.hi)) | (rw [backI (minI x0.B.lo x0.B.hi)]; done) | (rw [backI (minI x0.B.lo x0.B.hi)]; rfl))) ?_
  simp only [List.set_cons_succ, List.set_cons_zero]
  refine take_val (i := 8) (v := .int .u64 (tn ((maxI x0.B.lo x0.B.hi) - (minI x0.B.lo x0.B.hi)))) (st_ups _ _) rfl rfl (by kernel_rfl) (fun _ _ _ h => h) (by rfl) (by intro x hx; go_simp; (first | done | exact subUT (maxI x0.B.lo x0.B.hi) (minI x0.B.lo x0.B.hi) | exact congrArg _ (subUT (maxI x0.B.lo x0.B.hi) (minI x0.B.lo x0.B.hi)) | (rw [subUT (maxI x0.B.lo x0.B.hi) (minI x0.B.lo x0.B.hi)]; done) | (rw [subUT (maxI x0.B.lo x0.B.hi) (minI x0.B.lo x0.B.hi)]; rfl))) ?_
  simp only [List.set_cons_succ, List.set_cons_zero]
  refine take_val (i := 9) (v := .agg #[.int .u64 0, .int .u64 (tn ((maxI x0.B.lo x0.B.hi) - (minI x0.B.lo x0.B.hi)))]) (st_ups _ _) rfl rfl (by kernel_rfl) (fun _ _ _ h => h) (by rfl) (by intro x hx; go_simp; (first | done | exact rfl)) ?_
  simp only [List.set_cons_succ, List.set_cons_zero]
  refine take_val (i := 10) (v := .pointer (some ⟨w.heap.size, 5, none⟩)) (st_ups _ _) rfl rfl (by kernel_rfl) (fun _ _ _ h => h) (by rfl) (by intro x hx; go_simp; (first | done | exact rfl)) ?_
  simp only [List.set_cons_succ, List.set_cons_zero]
  refine take_val (i := 11) (v := .int .u64 (tn (x0.W))) (st_ups _ _) rfl rfl (by kernel_rfl) (fun _ _ _ h => h) (by rfl) (by intro x hx; have f0 := hx.load 0 5 rfl rfl; go_simp; (first | done | exact rfl)) ?_
  simp only [List.set_cons_succ, List.set_cons_zero]
  refine take_call (i := 12) (f := 80) (args := #[.agg #[.int .u64 (tn (0#64)), .int .u64 (tn ((maxI x0.B.lo x0.B.hi) - (minI x0.B.lo x0.B.hi)))], .int .u64 (tn (x0.W))]) (v := .int .u64 (tn (insideV (P.mk 0#64 ((maxI x0.B.lo x0.B.hi) - (minI x0.B.lo x0.B.hi))) x0.W))) (st_ups _ _) rfl rfl (by kernel_rfl) (fun _ _ _ h => h) (by rfl) (fun x hx => by kernel_rfl) (by intro x hx; exact insideV_any (P.mk 0#64 ((maxI x0.B.lo x0.B.hi) - (minI x0.B.lo x0.B.hi))) x0.W _) ?_
  simp only [List.set_cons_succ, List.set_cons_zero]
  refine take_val (i := 13) (v := .int .i64 (ti (insideV (P.mk 0#64 ((maxI x0.B.lo x0.B.hi) - (minI x0.B.lo x0.B.hi))) x0.W))) (st_ups _ _) rfl rfl (by kernel_rfl) (fun _ _ _ h => h) (by rfl) (by intro x hx; go_simp; (first | done | exact toI64 (insideV (P.mk 0#64 ((maxI x0.B.lo x0.B.hi) - (minI x0.B.lo x0.B.hi))) x0.W) | exact congrArg _ (toI64 (insideV (P.mk 0#64 ((maxI x0.B.lo x0.B.hi) - (minI x0.B.lo x0.B.hi))) x0.W)) | (rw [toI64 (insideV (P.mk 0#64 ((maxI x0.B.lo x0.B.hi) - (minI x0.B.lo x0.B.hi))) x0.W)]; done) | (rw [toI64 (insideV (P.mk 0#64 ((maxI x0.B.lo x0.B.hi) - (minI x0.B.lo x0.B.hi))) x0.W)]; rfl))) ?_
  simp only [List.set_cons_succ, List.set_cons_zero]
  refine take_val (i := 14) (v := .int .i64 (ti ((minI x0.B.lo x0.B.hi) + (insideV (P.mk 0#64 ((maxI x0.B.lo x0.B.hi) - (minI x0.B.lo x0.B.hi))) x0.W)))) (st_ups _ _) rfl rfl (by kernel_rfl) (fun _ _ _ h => h) (by rfl) (by intro x hx; go_simp; (first | done | exact addIT (minI x0.B.lo x0.B.hi) (insideV (P.mk 0#64 ((maxI x0.B.lo x0.B.hi) - (minI x0.B.lo x0.B.hi))) x0.W) | exact congrArg _ (addIT (minI x0.B.lo x0.B.hi) (insideV (P.mk 0#64 ((maxI x0.B.lo x0.B.hi) - (minI x0.B.lo x0.B.hi))) x0.W)) | (rw [addIT (minI x0.B.lo x0.B.hi) (insideV (P.mk 0#64 ((maxI x0.B.lo x0.B.hi) - (minI x0.B.lo x0.B.hi))) x0.W)]; done) | (rw [addIT (minI x0.B.lo x0.B.hi) (insideV (P.mk 0#64 ((maxI x0.B.lo x0.B.hi) - (minI x0.B.lo x0.B.hi))) x0.W)]; rfl))) ?_
  simp only [List.set_cons_succ, List.set_cons_zero]
  refine take_val (i := 15) (v := .int .i64 (ti ((minI x0.B.lo x0.B.hi) + (insideV (P.mk 0#64 ((maxI x0.B.lo x0.B.hi) - (minI x0.B.lo x0.B.hi))) x0.W)))) (st_ups _ _) rfl rfl (by kernel_rfl) (fun _ _ _ h => h) (by rfl) (by intro x hx; go_simp; (first | done | exact rfl)) ?_
  simp only [List.set_cons_succ, List.set_cons_zero]
  refine take_done (by kernel_rfl) ?_ _
  intro W4 hx
  replace HS := hid hx
  clear hx
  -- region 5
  go_upto_region 5 with fail
  refine lin_begin (St w [⟨w.heap.size, [some (.int .u64 (tn (x0.A.lo))), some (.int .u64 (tn (x0.A.hi))), some (.int .u64 (tn (x0.B.lo))), some (.int .u64 (tn (x0.B.hi))), some (.int .u64 (tn (x0.V))), some (.int .u64 (tn (x0.W))), some (.int .i64 (ti (x0.N)))], 60⟩, ⟨k1, [some (.int .i64 (ti (minI x0.A.lo x0.A.hi))), some (.int .i64 (ti (maxI x0.A.lo x0.A.hi)))], 38⟩, ⟨k2, [some (.int .i64 (ti (minI x0.B.lo x0.B.hi))), some (.int .i64 (ti (maxI x0.B.lo x0.B.hi)))], 38⟩]) rfl HS.out ?_
  refine lin_val (i := 0) (v := .pointer (some ⟨w.heap.size, 6, none⟩)) rfl rfl (by rfl) (by intro x hx; go_simp; (first | done | exact rfl)) ?_
  simp only [List.set_cons_succ, List.set_cons_zero]
  refine lin_val (i := 1) (v := .int .i64 (ti (x0.N))) rfl rfl (by rfl) (by intro x hx; have f0 := hx.load 0 6 rfl rfl; go_simp; (first | done | exact rfl)) ?_
  simp only [List.set_cons_succ, List.set_cons_zero]
  refine lin_val (i := 2) (v := .int .u64 (tn (x0.N))) rfl rfl (by rfl) (by intro x hx; go_simp; (first | done | exact backI x0.N | exact congrArg _ (backI x0.N) | (rw [backI x0.N]; done) | (rw [backI x0.N]; rfl))) ?_
  simp only [List.set_cons_succ, List.set_cons_zero]
  refine lin_val (i := 3) (v := .int .u64 (tn (x0.N % 64#64))) rfl rfl (by rfl) (by intro x hx; go_simp; (first | done | exact remUT x0.N 64#64 | exact congrArg _ (remUT x0.N 64#64) | (rw [remUT x0.N 64#64]; done) | (rw [remUT x0.N 64#64]; rfl))) ?_
  simp only [List.set_cons_succ, List.set_cons_zero]
  refine lin_val (i := 4) (v := .int .u64 (tn (x0.N % 64#64))) rfl rfl (by rfl) (by intro x hx; go_simp; (first | done | exact rfl)) ?_
  simp only [List.set_cons_succ, List.set_cons_zero]
  refine lin_done ?_
  intro W5 hx
  replace HS := hid hx
  clear hx
  -- region 6
  go_upto_region 6 with fail
  refine lin_begin (St w [⟨w.heap.size, [some (.int .u64 (tn (x0.A.lo))), some (.int .u64 (tn (x0.A.hi))), some (.int .u64 (tn (x0.B.lo))), some (.int .u64 (tn (x0.B.hi))), some (.int .u64 (tn (x0.V))), some (.int .u64 (tn (x0.W))), some (.int .i64 (ti (x0.N)))], 60⟩, ⟨k1, [some (.int .i64 (ti (minI x0.A.lo x0.A.hi))), some (.int .i64 (ti (maxI x0.A.lo x0.A.hi)))], 38⟩, ⟨k2, [some (.int .i64 (ti (minI x0.B.lo x0.B.hi))), some (.int .i64 (ti (maxI x0.B.lo x0.B.hi)))], 38⟩]) rfl HS.out ?_
  refine lin_val (i := 0) (v := .agg #[.int .i64 (ti (minI x0.A.lo x0.A.hi)), .int .i64 (ti (maxI x0.A.lo x0.A.hi))]) rfl rfl (by rfl) (by intro x hx; have f0 := hx.load 1 0 rfl rfl; have f1 := hx.load 1 1 rfl rfl; go_simp; (first | done | exact rfl)) ?_
  simp only [List.set_cons_succ, List.set_cons_zero]
  refine lin_val (i := 1) (v := .int .i64 (ti ((minI x0.A.lo x0.A.hi) + (insideV (P.mk 0#64 ((maxI x0.A.lo x0.A.hi) - (minI x0.A.lo x0.A.hi))) x0.V)))) rfl rfl (by rfl) (by intro x hx; go_simp; (first | done | exact rfl)) ?_
  simp only [List.set_cons_succ, List.set_cons_zero]
  refine lin_call (i := 2) (f := 54) (args := #[.agg #[.int .i64 (ti (minI x0.A.lo x0.A.hi)), .int .i64 (ti (maxI x0.A.lo x0.A.hi))], .int .i64 (ti ((minI x0.A.lo x0.A.hi) + (insideV (P.mk 0#64 ((maxI x0.A.lo x0.A.hi) - (minI x0.A.lo x0.A.hi))) x0.V)))]) (v := .bool true) (st_ups _ _) rfl rfl (by rfl) (fun x hx => by kernel_rfl) (by intro x hx; exact calls_is (span_Sin_any (P.mk (minI x0.A.lo x0.A.hi) (maxI x0.A.lo x0.A.hi)) ((minI x0.A.lo x0.A.hi) + (insideV (P.mk 0#64 ((maxI x0.A.lo x0.A.hi) - (minI x0.A.lo x0.A.hi))) x0.V)) _) (congrArg Value.bool (sin_of HA.out))) ?_
  simp only [List.set_cons_succ, List.set_cons_zero]
  refine lin_val (i := 3) (v := .bool false) rfl rfl (by rfl) (by intro x hx; go_simp; (first | done | exact rfl)) ?_
  simp only [List.set_cons_succ, List.set_cons_zero]
  refine lin_val (i := 4) (v := .bool false) rfl rfl (by rfl) (by intro x hx; go_simp; (first | done | exact rfl)) ?_
  simp only [List.set_cons_succ, List.set_cons_zero]
  refine lin_val (i := 5) (v := .agg #[.int .i64 (ti (minI x0.B.lo x0.B.hi)), .int .i64 (ti (maxI x0.B.lo x0.B.hi))]) rfl rfl (by rfl) (by intro x hx; have f0 := hx.load 2 0 rfl rfl; have f1 := hx.load 2 1 rfl rfl; go_simp; (first | done | exact rfl)) ?_
  simp only [List.set_cons_succ, List.set_cons_zero]
  refine lin_val (i := 6) (v := .int .i64 (ti ((minI x0.B.lo x0.B.hi) + (insideV (P.mk 0#64 ((maxI x0.B.lo x0.B.hi) - (minI x0.B.lo x0.B.hi))) x0.W)))) rfl rfl (by rfl) (by intro x hx; go_simp; (first | done | exact rfl)) ?_
  simp only [List.set_cons_succ, List.set_cons_zero]
  refine lin_call (i := 7) (f := 54) (args := #[.agg #[.int .i64 (ti (minI x0.B.lo x0.B.hi)), .int .i64 (ti (maxI x0.B.lo x0.B.hi))], .int .i64 (ti ((minI x0.B.lo x0.B.hi) + (insideV (P.mk 0#64 ((maxI x0.B.lo x0.B.hi) - (minI x0.B.lo x0.B.hi))) x0.W)))]) (v := .bool true) (st_ups _ _) rfl rfl (by rfl) (fun x hx => by kernel_rfl) (by intro x hx; exact calls_is (span_Sin_any (P.mk (minI x0.B.lo x0.B.hi) (maxI x0.B.lo x0.B.hi)) ((minI x0.B.lo x0.B.hi) + (insideV (P.mk 0#64 ((maxI x0.B.lo x0.B.hi) - (minI x0.B.lo x0.B.hi))) x0.W)) _) (congrArg Value.bool (sin_of HB.out))) ?_
  simp only [List.set_cons_succ, List.set_cons_zero]
  refine lin_val (i := 8) (v := .bool false) rfl rfl (by rfl) (by intro x hx; go_simp; (first | done | exact rfl)) ?_
  simp only [List.set_cons_succ, List.set_cons_zero]
  refine lin_val (i := 9) (v := .bool false) rfl rfl (by rfl) (by intro x hx; go_simp; (first | done | exact rfl)) ?_
  simp only [List.set_cons_succ, List.set_cons_zero]
  refine lin_val (i := 10) (v := .bool false) rfl rfl (by rfl) (by intro x hx; go_simp; (first | done | exact rfl)) ?_
  simp only [List.set_cons_succ, List.set_cons_zero]
  refine lin_val (i := 11) (v := .agg #[.int .i64 (ti (minI x0.A.lo x0.A.hi)), .int .i64 (ti (maxI x0.A.lo x0.A.hi))]) rfl rfl (by rfl) (by intro x hx; have f0 := hx.load 1 0 rfl rfl; have f1 := hx.load 1 1 rfl rfl; go_simp; (first | done | exact rfl)) ?_
  simp only [List.set_cons_succ, List.set_cons_zero]
  refine lin_val (i := 12) (v := .agg #[.int .i64 (ti (minI x0.B.lo x0.B.hi)), .int .i64 (ti (maxI x0.B.lo x0.B.hi))]) rfl rfl (by rfl) (by intro x hx; have f0 := hx.load 2 0 rfl rfl; have f1 := hx.load 2 1 rfl rfl; go_simp; (first | done | exact rfl)) ?_
  simp only [List.set_cons_succ, List.set_cons_zero]
  refine lin_call (i := 13) (f := 60) (args := #[.agg #[.int .i64 (ti (minI x0.A.lo x0.A.hi)), .int .i64 (ti (maxI x0.A.lo x0.A.hi))], .agg #[.int .i64 (ti (minI x0.B.lo x0.B.hi)), .int .i64 (ti (maxI x0.B.lo x0.B.hi))]]) (v := .agg #[.int .i64 (ti ((span_Sadd (P.mk (minI x0.A.lo x0.A.hi) (maxI x0.A.lo x0.A.hi)) (P.mk (minI x0.B.lo x0.B.hi) (maxI x0.B.lo x0.B.hi))).lo)), .int .i64 (ti ((span_Sadd (P.mk (minI x0.A.lo x0.A.hi) (maxI x0.A.lo x0.A.hi)) (P.mk (minI x0.B.lo x0.B.hi) (maxI x0.B.lo x0.B.hi))).hi))]) (st_ups _ _) rfl rfl (by rfl) (fun x hx => by kernel_rfl) (by intro x hx; exact span_Sadd_any (P.mk (minI x0.A.lo x0.A.hi) (maxI x0.A.lo x0.A.hi)) (P.mk (minI x0.B.lo x0.B.hi) (maxI x0.B.lo x0.B.hi)) _) ?_
  simp only [List.set_cons_succ, List.set_cons_zero]
  refine lin_val (i := 14) (v := .int .i64 (ti ((minI x0.A.lo x0.A.hi) + (insideV (P.mk 0#64 ((maxI x0.A.lo x0.A.hi) - (minI x0.A.lo x0.A.hi))) x0.V)))) rfl rfl (by rfl) (by intro x hx; go_simp; (first | done | exact rfl)) ?_
  simp only [List.set_cons_succ, List.set_cons_zero]
  refine lin_val (i := 15) (v := .int .i64 (ti ((minI x0.B.lo x0.B.hi) + (insideV (P.mk 0#64 ((maxI x0.B.lo x0.B.hi) - (minI x0.B.lo x0.B.hi))) x0.W)))) rfl rfl (by rfl) (by intro x hx; go_simp; (first | done | exact rfl)) ?_
  simp only [List.set_cons_succ, List.set_cons_zero]
  refine lin_val (i := 16) (v := .int .i64 (ti (((minI x0.A.lo x0.A.hi) + (insideV (P.mk 0#64 ((maxI x0.A.lo x0.A.hi) - (minI x0.A.lo x0.A.hi))) x0.V)) + ((minI x0.B.lo x0.B.hi) + (insideV (P.mk 0#64 ((maxI x0.B.lo x0.B.hi) - (minI x0.B.lo x0.B.hi))) x0.W))))) rfl rfl (by rfl) (by intro x hx; go_simp; (first | done | exact addIT ((minI x0.A.lo x0.A.hi) + (insideV (P.mk 0#64 ((maxI x0.A.lo x0.A.hi) - (minI x0.A.lo x0.A.hi))) x0.V)) ((minI x0.B.lo x0.B.hi) + (insideV (P.mk 0#64 ((maxI x0.B.lo x0.B.hi) - (minI x0.B.lo x0.B.hi))) x0.W)) | exact congrArg _ (addIT ((minI x0.A.lo x0.A.hi) + (insideV (P.mk 0#64 ((maxI x0.A.lo x0.A.hi) - (minI x0.A.lo x0.A.hi))) x0.V)) ((minI x0.B.lo x0.B.hi) + (insideV (P.mk 0#64 ((maxI x0.B.lo x0.B.hi) - (minI x0.B.lo x0.B.hi))) x0.W))) | (rw [addIT ((minI x0.A.lo x0.A.hi) + (insideV (P.mk 0#64 ((maxI x0.A.lo x0.A.hi) - (minI x0.A.lo x0.A.hi))) x0.V)) ((minI x0.B.lo x0.B.hi) + (insideV (P.mk 0#64 ((maxI x0.B.lo x0.B.hi) - (minI x0.B.lo x0.B.hi))) x0.W))]; done) | (rw [addIT ((minI x0.A.lo x0.A.hi) + (insideV (P.mk 0#64 ((maxI x0.A.lo x0.A.hi) - (minI x0.A.lo x0.A.hi))) x0.V)) ((minI x0.B.lo x0.B.hi) + (insideV (P.mk 0#64 ((maxI x0.B.lo x0.B.hi) - (minI x0.B.lo x0.B.hi))) x0.W))]; rfl))) ?_
  simp only [List.set_cons_succ, List.set_cons_zero]
  refine lin_call (i := 17) (f := 54) (args := #[.agg #[.int .i64 (ti ((span_Sadd (P.mk (minI x0.A.lo x0.A.hi) (maxI x0.A.lo x0.A.hi)) (P.mk (minI x0.B.lo x0.B.hi) (maxI x0.B.lo x0.B.hi))).lo)), .int .i64 (ti ((span_Sadd (P.mk (minI x0.A.lo x0.A.hi) (maxI x0.A.lo x0.A.hi)) (P.mk (minI x0.B.lo x0.B.hi) (maxI x0.B.lo x0.B.hi))).hi))], .int .i64 (ti (((minI x0.A.lo x0.A.hi) + (insideV (P.mk 0#64 ((maxI x0.A.lo x0.A.hi) - (minI x0.A.lo x0.A.hi))) x0.V)) + ((minI x0.B.lo x0.B.hi) + (insideV (P.mk 0#64 ((maxI x0.B.lo x0.B.hi) - (minI x0.B.lo x0.B.hi))) x0.W))))]) (v := .bool true) (st_ups _ _) rfl rfl (by rfl) (fun x hx => by kernel_rfl) (by intro x hx; exact calls_is (span_Sin_any (span_Sadd (P.mk (minI x0.A.lo x0.A.hi) (maxI x0.A.lo x0.A.hi)) (P.mk (minI x0.B.lo x0.B.hi) (maxI x0.B.lo x0.B.hi))) (((minI x0.A.lo x0.A.hi) + (insideV (P.mk 0#64 ((maxI x0.A.lo x0.A.hi) - (minI x0.A.lo x0.A.hi))) x0.V)) + ((minI x0.B.lo x0.B.hi) + (insideV (P.mk 0#64 ((maxI x0.B.lo x0.B.hi) - (minI x0.B.lo x0.B.hi))) x0.W))) _) (congrArg Value.bool (sin_of (sadd_in' HA.out HB.out)))) ?_
  simp only [List.set_cons_succ, List.set_cons_zero]
  refine lin_val (i := 18) (v := .bool false) rfl rfl (by rfl) (by intro x hx; go_simp; (first | done | exact rfl)) ?_
  simp only [List.set_cons_succ, List.set_cons_zero]
  refine lin_val (i := 19) (v := .bool false) rfl rfl (by rfl) (by intro x hx; go_simp; (first | done | exact rfl)) ?_
  simp only [List.set_cons_succ, List.set_cons_zero]
  refine lin_val (i := 20) (v := .bool false) rfl rfl (by rfl) (by intro x hx; go_simp; (first | done | exact rfl)) ?_
  simp only [List.set_cons_succ, List.set_cons_zero]
  refine lin_val (i := 21) (v := .agg #[.int .i64 (ti (minI x0.A.lo x0.A.hi)), .int .i64 (ti (maxI x0.A.lo x0.A.hi))]) rfl rfl (by rfl) (by intro x hx; have f0 := hx.load 1 0 rfl rfl; have f1 := hx.load 1 1 rfl rfl; go_simp; (first | done | exact rfl)) ?_
  simp only [List.set_cons_succ, List.set_cons_zero]
  refine lin_val (i := 22) (v := .agg #[.int .i64 (ti (minI x0.B.lo x0.B.hi)), .int .i64 (ti (maxI x0.B.lo x0.B.hi))]) rfl rfl (by rfl) (by intro x hx; have f0 := hx.load 2 0 rfl rfl; have f1 := hx.load 2 1 rfl rfl; go_simp; (first | done | exact rfl)) ?_
  simp only [List.set_cons_succ, List.set_cons_zero]
  refine lin_call (i := 23) (f := 62) (args := #[.agg #[.int .i64 (ti (minI x0.A.lo x0.A.hi)), .int .i64 (ti (maxI x0.A.lo x0.A.hi))], .agg #[.int .i64 (ti (minI x0.B.lo x0.B.hi)), .int .i64 (ti (maxI x0.B.lo x0.B.hi))]]) (v := .agg #[.int .i64 (ti ((span_Ssub (P.mk (minI x0.A.lo x0.A.hi) (maxI x0.A.lo x0.A.hi)) (P.mk (minI x0.B.lo x0.B.hi) (maxI x0.B.lo x0.B.hi))).lo)), .int .i64 (ti ((span_Ssub (P.mk (minI x0.A.lo x0.A.hi) (maxI x0.A.lo x0.A.hi)) (P.mk (minI x0.B.lo x0.B.hi) (maxI x0.B.lo x0.B.hi))).hi))]) (st_ups _ _) rfl rfl (by rfl) (fun x hx => by kernel_rfl) (by intro x hx; exact span_Ssub_any (P.mk (minI x0.A.lo x0.A.hi) (maxI x0.A.lo x0.A.hi)) (P.mk (minI x0.B.lo x0.B.hi) (maxI x0.B.lo x0.B.hi)) _) ?_
  simp only [List.set_cons_succ, List.set_cons_zero]
  refine lin_val (i := 24) (v := .int .i64 (ti ((minI x0.A.lo x0.A.hi) + (insideV (P.mk 0#64 ((maxI x0.A.lo x0.A.hi) - (minI x0.A.lo x0.A.hi))) x0.V)))) rfl rfl (by rfl) (by intro x hx; go_simp; (first | done | exact rfl)) ?_
  simp only [List.set_cons_succ, List.set_cons_zero]
  refine lin_val (i := 25) (v := .int .i64 (ti ((minI x0.B.lo x0.B.hi) + (insideV (P.mk 0#64 ((maxI x0.B.lo x0.B.hi) - (minI x0.B.lo x0.B.hi))) x0.W)))) rfl rfl (by rfl) (by intro x hx; go_simp; (first | done | exact rfl)) ?_
  simp only [List.set_cons_succ, List.set_cons_zero]
  refine lin_val (i := 26) (v := .int .i64 (ti (((minI x0.A.lo x0.A.hi) + (insideV (P.mk 0#64 ((maxI x0.A.lo x0.A.hi) - (minI x0.A.lo x0.A.hi))) x0.V)) - ((minI x0.B.lo x0.B.hi) + (insideV (P.mk 0#64 ((maxI x0.B.lo x0.B.hi) - (minI x0.B.lo x0.B.hi))) x0.W))))) rfl rfl (by rfl) (by intro x hx; go_simp; (first | done | exact subIT ((minI x0.A.lo x0.A.hi) + (insideV (P.mk 0#64 ((maxI x0.A.lo x0.A.hi) - (minI x0.A.lo x0.A.hi))) x0.V)) ((minI x0.B.lo x0.B.hi) + (insideV (P.mk 0#64 ((maxI x0.B.lo x0.B.hi) - (minI x0.B.lo x0.B.hi))) x0.W)) | exact congrArg _ (subIT ((minI x0.A.lo x0.A.hi) + (insideV (P.mk 0#64 ((maxI x0.A.lo x0.A.hi) - (minI x0.A.lo x0.A.hi))) x0.V)) ((minI x0.B.lo x0.B.hi) + (insideV (P.mk 0#64 ((maxI x0.B.lo x0.B.hi) - (minI x0.B.lo x0.B.hi))) x0.W))) | (rw [subIT ((minI x0.A.lo x0.A.hi) + (insideV (P.mk 0#64 ((maxI x0.A.lo x0.A.hi) - (minI x0.A.lo x0.A.hi))) x0.V)) ((minI x0.B.lo x0.B.hi) + (insideV (P.mk 0#64 ((maxI x0.B.lo x0.B.hi) - (minI x0.B.lo x0.B.hi))) x0.W))]; done) | (rw [subIT ((minI x0.A.lo x0.A.hi) + (insideV (P.mk 0#64 ((maxI x0.A.lo x0.A.hi) - (minI x0.A.lo x0.A.hi))) x0.V)) ((minI x0.B.lo x0.B.hi) + (insideV (P.mk 0#64 ((maxI x0.B.lo x0.B.hi) - (minI x0.B.lo x0.B.hi))) x0.W))]; rfl))) ?_
  simp only [List.set_cons_succ, List.set_cons_zero]
  refine lin_call (i := 27) (f := 54) (args := #[.agg #[.int .i64 (ti ((span_Ssub (P.mk (minI x0.A.lo x0.A.hi) (maxI x0.A.lo x0.A.hi)) (P.mk (minI x0.B.lo x0.B.hi) (maxI x0.B.lo x0.B.hi))).lo)), .int .i64 (ti ((span_Ssub (P.mk (minI x0.A.lo x0.A.hi) (maxI x0.A.lo x0.A.hi)) (P.mk (minI x0.B.lo x0.B.hi) (maxI x0.B.lo x0.B.hi))).hi))], .int .i64 (ti (((minI x0.A.lo x0.A.hi) + (insideV (P.mk 0#64 ((maxI x0.A.lo x0.A.hi) - (minI x0.A.lo x0.A.hi))) x0.V)) - ((minI x0.B.lo x0.B.hi) + (insideV (P.mk 0#64 ((maxI x0.B.lo x0.B.hi) - (minI x0.B.lo x0.B.hi))) x0.W))))]) (v := .bool true) (st_ups _ _) rfl rfl (by rfl) (fun x hx => by kernel_rfl) (by intro x hx; exact calls_is (span_Sin_any (span_Ssub (P.mk (minI x0.A.lo x0.A.hi) (maxI x0.A.lo x0.A.hi)) (P.mk (minI x0.B.lo x0.B.hi) (maxI x0.B.lo x0.B.hi))) (((minI x0.A.lo x0.A.hi) + (insideV (P.mk 0#64 ((maxI x0.A.lo x0.A.hi) - (minI x0.A.lo x0.A.hi))) x0.V)) - ((minI x0.B.lo x0.B.hi) + (insideV (P.mk 0#64 ((maxI x0.B.lo x0.B.hi) - (minI x0.B.lo x0.B.hi))) x0.W))) _) (congrArg Value.bool (sin_of (ssub_in' HA.out HB.out)))) ?_
  simp only [List.set_cons_succ, List.set_cons_zero]
  refine lin_val (i := 28) (v := .bool false) rfl rfl (by rfl) (by intro x hx; go_simp; (first | done | exact rfl)) ?_
  simp only [List.set_cons_succ, List.set_cons_zero]
  refine lin_val (i := 29) (v := .bool false) rfl rfl (by rfl) (by intro x hx; go_simp; (first | done | exact rfl)) ?_
  simp only [List.set_cons_succ, List.set_cons_zero]
  refine lin_val (i := 30) (v := .bool false) rfl rfl (by rfl) (by intro x hx; go_simp; (first | done | exact rfl)) ?_
  simp only [List.set_cons_succ, List.set_cons_zero]
  refine lin_val (i := 31) (v := .agg #[.int .i64 (ti (minI x0.A.lo x0.A.hi)), .int .i64 (ti (maxI x0.A.lo x0.A.hi))]) rfl rfl (by rfl) (by intro x hx; have f0 := hx.load 1 0 rfl rfl; have f1 := hx.load 1 1 rfl rfl; go_simp; (first | done | exact rfl)) ?_
  simp only [List.set_cons_succ, List.set_cons_zero]
  refine lin_val (i := 32) (v := .pointer (some ⟨w.heap.size, 6, none⟩)) rfl rfl (by rfl) (by intro x hx; go_simp; (first | done | exact rfl)) ?_
  simp only [List.set_cons_succ, List.set_cons_zero]
  refine lin_val (i := 33) (v := .int .i64 (ti (x0.N))) rfl rfl (by rfl) (by intro x hx; have f0 := hx.load 0 6 rfl rfl; go_simp; (first | done | exact rfl)) ?_
  simp only [List.set_cons_succ, List.set_cons_zero]
  refine lin_call (i := 34) (f := 64) (args := #[.agg #[.int .i64 (ti (minI x0.A.lo x0.A.hi)), .int .i64 (ti (maxI x0.A.lo x0.A.hi))], .int .i64 (ti (x0.N))]) (v := .agg #[.int .i64 (ti ((span_down_int64 (P.mk (minI x0.A.lo x0.A.hi) (maxI x0.A.lo x0.A.hi)) x0.N).lo)), .int .i64 (ti ((span_down_int64 (P.mk (minI x0.A.lo x0.A.hi) (maxI x0.A.lo x0.A.hi)) x0.N).hi))]) (st_ups _ _) rfl rfl (by rfl) (fun x hx => by kernel_rfl) (by intro x hx; exact span_Sarsh_any (P.mk (minI x0.A.lo x0.A.hi) (maxI x0.A.lo x0.A.hi)) x0.N _) ?_
  simp only [List.set_cons_succ, List.set_cons_zero]
  refine lin_val (i := 35) (v := .int .i64 (ti ((minI x0.A.lo x0.A.hi) + (insideV (P.mk 0#64 ((maxI x0.A.lo x0.A.hi) - (minI x0.A.lo x0.A.hi))) x0.V)))) rfl rfl (by rfl) (by intro x hx; go_simp; (first | done | exact rfl)) ?_
  simp only [List.set_cons_succ, List.set_cons_zero]
  refine lin_val (i := 36) (v := .int .u64 (tn (x0.N % 64#64))) rfl rfl (by rfl) (by intro x hx; go_simp; (first | done | exact rfl)) ?_
  simp only [List.set_cons_succ, List.set_cons_zero]
  refine lin_val (i := 37) (v := .int .i64 (ti (BitVec.sshiftRight ((minI x0.A.lo x0.A.hi) + (insideV (P.mk 0#64 ((maxI x0.A.lo x0.A.hi) - (minI x0.A.lo x0.A.hi))) x0.V)) (x0.N % 64#64).toNat))) rfl rfl (by rfl) (by intro x hx; have hy := tn_lo (x0.N % 64#64); go_simp; (first | done | exact shrIU ((minI x0.A.lo x0.A.hi) + (insideV (P.mk 0#64 ((maxI x0.A.lo x0.A.hi) - (minI x0.A.lo x0.A.hi))) x0.V)) (x0.N % 64#64) hy | exact congrArg _ (shrIU ((minI x0.A.lo x0.A.hi) + (insideV (P.mk 0#64 ((maxI x0.A.lo x0.A.hi) - (minI x0.A.lo x0.A.hi))) x0.V)) (x0.N % 64#64) hy) | (rw [shrIU ((minI x0.A.lo x0.A.hi) + (insideV (P.mk 0#64 ((maxI x0.A.lo x0.A.hi) - (minI x0.A.lo x0.A.hi))) x0.V)) (x0.N % 64#64) hy]; done) | (rw [shrIU ((minI x0.A.lo x0.A.hi) + (insideV (P.mk 0#64 ((maxI x0.A.lo x0.A.hi) - (minI x0.A.lo x0.A.hi))) x0.V)) (x0.N % 64#64) hy]; rfl))) ?_
  simp only [List.set_cons_succ, List.set_cons_zero]
  refine lin_call (i := 38) (f := 54) (args := #[.agg #[.int .i64 (ti ((span_down_int64 (P.mk (minI x0.A.lo x0.A.hi) (maxI x0.A.lo x0.A.hi)) x0.N).lo)), .int .i64 (ti ((span_down_int64 (P.mk (minI x0.A.lo x0.A.hi) (maxI x0.A.lo x0.A.hi)) x0.N).hi))], .int .i64 (ti (BitVec.sshiftRight ((minI x0.A.lo x0.A.hi) + (insideV (P.mk 0#64 ((maxI x0.A.lo x0.A.hi) - (minI x0.A.lo x0.A.hi))) x0.V)) (x0.N % 64#64).toNat))]) (v := .bool true) (st_ups _ _) rfl rfl (by rfl) (fun x hx => by kernel_rfl) (by intro x hx; exact calls_is (span_Sin_any (span_down_int64 (P.mk (minI x0.A.lo x0.A.hi) (maxI x0.A.lo x0.A.hi)) x0.N) (BitVec.sshiftRight ((minI x0.A.lo x0.A.hi) + (insideV (P.mk 0#64 ((maxI x0.A.lo x0.A.hi) - (minI x0.A.lo x0.A.hi))) x0.V)) (x0.N % 64#64).toNat) _) (congrArg Value.bool (sin_of (sarsh_in' _ HA.out)))) ?_
  simp only [List.set_cons_succ, List.set_cons_zero]
  refine lin_val (i := 39) (v := .bool false) rfl rfl (by rfl) (by intro x hx; go_simp; (first | done | exact rfl)) ?_
  simp only [List.set_cons_succ, List.set_cons_zero]
  refine lin_val (i := 40) (v := .bool false) rfl rfl (by rfl) (by intro x hx; go_simp; (first | done | exact rfl)) ?_
  simp only [List.set_cons_succ, List.set_cons_zero]
  refine lin_val (i := 41) (v := .bool false) rfl rfl (by rfl) (by intro x hx; go_simp; (first | done | exact rfl)) ?_
  simp only [List.set_cons_succ, List.set_cons_zero]
  refine lin_val (i := 42) (v := .agg #[.int .i64 (ti (minI x0.A.lo x0.A.hi)), .int .i64 (ti (maxI x0.A.lo x0.A.hi))]) rfl rfl (by rfl) (by intro x hx; have f0 := hx.load 1 0 rfl rfl; have f1 := hx.load 1 1 rfl rfl; go_simp; (first | done | exact rfl)) ?_
  simp only [List.set_cons_succ, List.set_cons_zero]
  refine lin_call (i := 43) (f := 66) (args := #[.agg #[.int .i64 (ti (minI x0.A.lo x0.A.hi)), .int .i64 (ti (maxI x0.A.lo x0.A.hi))]]) (v := .agg #[.int .i64 (ti ((span_Scut (P.mk (minI x0.A.lo x0.A.hi) (maxI x0.A.lo x0.A.hi))).lo)), .int .i64 (ti ((span_Scut (P.mk (minI x0.A.lo x0.A.hi) (maxI x0.A.lo x0.A.hi))).hi))]) (st_ups _ _) rfl rfl (by rfl) (fun x hx => by kernel_rfl) (by intro x hx; exact span_Scut_any (P.mk (minI x0.A.lo x0.A.hi) (maxI x0.A.lo x0.A.hi)) _) ?_
  simp only [List.set_cons_succ, List.set_cons_zero]
  refine lin_val (i := 44) (v := .int .i64 (ti ((minI x0.A.lo x0.A.hi) + (insideV (P.mk 0#64 ((maxI x0.A.lo x0.A.hi) - (minI x0.A.lo x0.A.hi))) x0.V)))) rfl rfl (by rfl) (by intro x hx; go_simp; (first | done | exact rfl)) ?_
  simp only [List.set_cons_succ, List.set_cons_zero]
  refine lin_val (i := 45) (v := .int .i32 (ti32 (BitVec.setWidth 32 ((minI x0.A.lo x0.A.hi) + (insideV (P.mk 0#64 ((maxI x0.A.lo x0.A.hi) - (minI x0.A.lo x0.A.hi))) x0.V))))) rfl rfl (by rfl) (by intro x hx; exact (show _ = Result.ok (Next.value (.int .i32 (IntKind.i32.wrap (ti ((minI x0.A.lo x0.A.hi) + (insideV (P.mk 0#64 ((maxI x0.A.lo x0.A.hi) - (minI x0.A.lo x0.A.hi))) x0.V)))))) x by kernel_rfl).trans (by rw [cutI32 ((minI x0.A.lo x0.A.hi) + (insideV (P.mk 0#64 ((maxI x0.A.lo x0.A.hi) - (minI x0.A.lo x0.A.hi))) x0.V))])) ?_
  simp only [List.set_cons_succ, List.set_cons_zero]
  refine lin_val (i := 46) (v := .int .i64 (ti (BitVec.signExtend 64 (BitVec.setWidth 32 ((minI x0.A.lo x0.A.hi) + (insideV (P.mk 0#64 ((maxI x0.A.lo x0.A.hi) - (minI x0.A.lo x0.A.hi))) x0.V)))))) rfl rfl (by rfl) (by intro x hx; exact (show _ = Result.ok (Next.value (.int .i64 (IntKind.i64.wrap (ti32 (BitVec.setWidth 32 ((minI x0.A.lo x0.A.hi) + (insideV (P.mk 0#64 ((maxI x0.A.lo x0.A.hi) - (minI x0.A.lo x0.A.hi))) x0.V))))))) x by kernel_rfl).trans (by rw [wideI32 (BitVec.setWidth 32 ((minI x0.A.lo x0.A.hi) + (insideV (P.mk 0#64 ((maxI x0.A.lo x0.A.hi) - (minI x0.A.lo x0.A.hi))) x0.V)))])) ?_
  simp only [List.set_cons_succ, List.set_cons_zero]
  refine lin_call (i := 47) (f := 54) (args := #[.agg #[.int .i64 (ti ((span_Scut (P.mk (minI x0.A.lo x0.A.hi) (maxI x0.A.lo x0.A.hi))).lo)), .int .i64 (ti ((span_Scut (P.mk (minI x0.A.lo x0.A.hi) (maxI x0.A.lo x0.A.hi))).hi))], .int .i64 (ti (BitVec.signExtend 64 (BitVec.setWidth 32 ((minI x0.A.lo x0.A.hi) + (insideV (P.mk 0#64 ((maxI x0.A.lo x0.A.hi) - (minI x0.A.lo x0.A.hi))) x0.V)))))]) (v := .bool true) (st_ups _ _) rfl rfl (by rfl) (fun x hx => by kernel_rfl) (by intro x hx; exact calls_is (span_Sin_any (span_Scut (P.mk (minI x0.A.lo x0.A.hi) (maxI x0.A.lo x0.A.hi))) (BitVec.signExtend 64 (BitVec.setWidth 32 ((minI x0.A.lo x0.A.hi) + (insideV (P.mk 0#64 ((maxI x0.A.lo x0.A.hi) - (minI x0.A.lo x0.A.hi))) x0.V)))) _) (congrArg Value.bool (sin_of (scut_in' HA.out)))) ?_
  simp only [List.set_cons_succ, List.set_cons_zero]
  refine lin_val (i := 48) (v := .bool false) rfl rfl (by rfl) (by intro x hx; go_simp; (first | done | exact rfl)) ?_
  simp only [List.set_cons_succ, List.set_cons_zero]
  refine lin_val (i := 49) (v := .bool false) rfl rfl (by rfl) (by intro x hx; go_simp; (first | done | exact rfl)) ?_
  simp only [List.set_cons_succ, List.set_cons_zero]
  refine lin_val (i := 50) (v := .bool false) rfl rfl (by rfl) (by intro x hx; go_simp; (first | done | exact rfl)) ?_
  simp only [List.set_cons_succ, List.set_cons_zero]
  refine lin_val (i := 51) (v := .agg #[.int .i64 (ti (minI x0.A.lo x0.A.hi)), .int .i64 (ti (maxI x0.A.lo x0.A.hi))]) rfl rfl (by rfl) (by intro x hx; have f0 := hx.load 1 0 rfl rfl; have f1 := hx.load 1 1 rfl rfl; go_simp; (first | done | exact rfl)) ?_
  simp only [List.set_cons_succ, List.set_cons_zero]
  refine lin_call (i := 52) (f := 72) (args := #[.agg #[.int .i64 (ti (minI x0.A.lo x0.A.hi)), .int .i64 (ti (maxI x0.A.lo x0.A.hi))]]) (v := .agg #[.int .u64 (tn ((span_ToSpan (P.mk (minI x0.A.lo x0.A.hi) (maxI x0.A.lo x0.A.hi))).lo)), .int .u64 (tn ((span_ToSpan (P.mk (minI x0.A.lo x0.A.hi) (maxI x0.A.lo x0.A.hi))).hi))]) (st_ups _ _) rfl rfl (by rfl) (fun x hx => by kernel_rfl) (by intro x hx; exact span_ToSpan_any (P.mk (minI x0.A.lo x0.A.hi) (maxI x0.A.lo x0.A.hi)) _) ?_
  simp only [List.set_cons_succ, List.set_cons_zero]
  refine lin_val (i := 53) (v := .int .i64 (ti ((minI x0.A.lo x0.A.hi) + (insideV (P.mk 0#64 ((maxI x0.A.lo x0.A.hi) - (minI x0.A.lo x0.A.hi))) x0.V)))) rfl rfl (by rfl) (by intro x hx; go_simp; (first | done | exact rfl)) ?_
  simp only [List.set_cons_succ, List.set_cons_zero]
  refine lin_val (i := 54) (v := .int .u64 (tn ((minI x0.A.lo x0.A.hi) + (insideV (P.mk 0#64 ((maxI x0.A.lo x0.A.hi) - (minI x0.A.lo x0.A.hi))) x0.V)))) rfl rfl (by rfl) (by intro x hx; go_simp; (first | done | exact backI ((minI x0.A.lo x0.A.hi) + (insideV (P.mk 0#64 ((maxI x0.A.lo x0.A.hi) - (minI x0.A.lo x0.A.hi))) x0.V)) | exact congrArg _ (backI ((minI x0.A.lo x0.A.hi) + (insideV (P.mk 0#64 ((maxI x0.A.lo x0.A.hi) - (minI x0.A.lo x0.A.hi))) x0.V))) | (rw [backI ((minI x0.A.lo x0.A.hi) + (insideV (P.mk 0#64 ((maxI x0.A.lo x0.A.hi) - (minI x0.A.lo x0.A.hi))) x0.V))]; done) | (rw [backI ((minI x0.A.lo x0.A.hi) + (insideV (P.mk 0#64 ((maxI x0.A.lo x0.A.hi) - (minI x0.A.lo x0.A.hi))) x0.V))]; rfl))) ?_
  simp only [List.set_cons_succ, List.set_cons_zero]
  refine lin_call (i := 55) (f := 19) (args := #[.agg #[.int .u64 (tn ((span_ToSpan (P.mk (minI x0.A.lo x0.A.hi) (maxI x0.A.lo x0.A.hi))).lo)), .int .u64 (tn ((span_ToSpan (P.mk (minI x0.A.lo x0.A.hi) (maxI x0.A.lo x0.A.hi))).hi))], .int .u64 (tn ((minI x0.A.lo x0.A.hi) + (insideV (P.mk 0#64 ((maxI x0.A.lo x0.A.hi) - (minI x0.A.lo x0.A.hi))) x0.V)))]) (v := .bool true) (st_ups _ _) rfl rfl (by rfl) (fun x hx => by kernel_rfl) (by intro x hx; exact calls_is (span_In_any (span_ToSpan (P.mk (minI x0.A.lo x0.A.hi) (maxI x0.A.lo x0.A.hi))) ((minI x0.A.lo x0.A.hi) + (insideV (P.mk 0#64 ((maxI x0.A.lo x0.A.hi) - (minI x0.A.lo x0.A.hi))) x0.V)) _) (congrArg Value.bool (in_of (toSpan_in HA.out)))) ?_
  simp only [List.set_cons_succ, List.set_cons_zero]
  refine lin_val (i := 56) (v := .bool false) rfl rfl (by rfl) (by intro x hx; go_simp; (first | done | exact rfl)) ?_
  simp only [List.set_cons_succ, List.set_cons_zero]
  refine lin_val (i := 57) (v := .bool false) rfl rfl (by rfl) (by intro x hx; go_simp; (first | done | exact rfl)) ?_
  simp only [List.set_cons_succ, List.set_cons_zero]
  refine lin_done ?_
  intro W6 hx
  replace HS := hid hx
  clear hx
  -- region 8
  go_upto_region 8 with fail
  refine lin_begin (St w [⟨w.heap.size, [some (.int .u64 (tn (x0.A.lo))), some (.int .u64 (tn (x0.A.hi))), some (.int .u64 (tn (x0.B.lo))), some (.int .u64 (tn (x0.B.hi))), some (.int .u64 (tn (x0.V))), some (.int .u64 (tn (x0.W))), some (.int .i64 (ti (x0.N)))], 60⟩, ⟨k1, [some (.int .i64 (ti (minI x0.A.lo x0.A.hi))), some (.int .i64 (ti (maxI x0.A.lo x0.A.hi)))], 38⟩, ⟨k2, [some (.int .i64 (ti (minI x0.B.lo x0.B.hi))), some (.int .i64 (ti (maxI x0.B.lo x0.B.hi)))], 38⟩]) rfl HS.out ?_
  refine lin_val (i := 0) (v := .pointer (some ⟨w.heap.size, 4, none⟩)) rfl rfl (by rfl) (by intro x hx; go_simp; (first | done | exact rfl)) ?_
  simp only [List.set_cons_succ, List.set_cons_zero]
  refine lin_val (i := 1) (v := .int .u64 (tn (x0.V))) rfl rfl (by rfl) (by intro x hx; have f0 := hx.load 0 4 rfl rfl; go_simp; (first | done | exact rfl)) ?_
  simp only [List.set_cons_succ, List.set_cons_zero]
  refine lin_val (i := 2) (v := .int .u64 (tn (x1))) rfl rfl (by rfl) (by intro x hx; go_simp; (first | done | exact rfl)) ?_
  simp only [List.set_cons_succ, List.set_cons_zero]
  refine lin_val (i := 3) (v := .int .u64 (tn (x0.V &&& ~~~x1))) rfl rfl (by rfl) (by intro x hx; go_simp; (first | done | exact andNotUT x0.V x1 | exact congrArg _ (andNotUT x0.V x1) | (rw [andNotUT x0.V x1]; done) | (rw [andNotUT x0.V x1]; rfl))) ?_
  simp only [List.set_cons_succ, List.set_cons_zero]
  refine lin_val (i := 4) (v := .int .u64 (tn (x1))) rfl rfl (by rfl) (by intro x hx; go_simp; (first | done | exact rfl)) ?_
  simp only [List.set_cons_succ, List.set_cons_zero]
  refine lin_val (i := 5) (v := .agg #[.int .u64 (tn (x0.V &&& ~~~x1)), .int .u64 (tn (x1))]) rfl rfl (by rfl) (by intro x hx; go_simp; (first | done | exact rfl)) ?_
  simp only [List.set_cons_succ, List.set_cons_zero]
  refine lin_new (i := 6) rfl rfl (by rfl) [.int .u64 0, .int .u64 0] 51 (fun k => .pointer (some ⟨k, 0, none⟩)) [some (.int .u64 0), some (.int .u64 0)] (lessC_eq (lessC_eq (trivial))) (by intro x hx; go_simp; (first | done | exact rfl)) (fun k3 => ?_)
  simp only [List.set_cons_succ, List.set_cons_zero]
  refine lin_store (i := 7) (St w [⟨w.heap.size, [some (.int .u64 (tn (x0.A.lo))), some (.int .u64 (tn (x0.A.hi))), some (.int .u64 (tn (x0.B.lo))), some (.int .u64 (tn (x0.B.hi))), some (.int .u64 (tn (x0.V))), some (.int .u64 (tn (x0.W))), some (.int .i64 (ti (x0.N)))], 60⟩, ⟨k1, [some (.int .i64 (ti (minI x0.A.lo x0.A.hi))), some (.int .i64 (ti (maxI x0.A.lo x0.A.hi)))], 38⟩, ⟨k2, [some (.int .i64 (ti (minI x0.B.lo x0.B.hi))), some (.int .i64 (ti (maxI x0.B.lo x0.B.hi)))], 38⟩, ⟨k3, [some (.int .u64 (tn (x0.V &&& ~~~x1))), some (.int .u64 (tn (x1)))], 51⟩]) rfl rfl (by rfl) (fun x => ((x.setCell ⟨k3, 0, none⟩ (.int .u64 (tn (x0.V &&& ~~~x1)))).setCell ⟨k3, 1, none⟩ (.int .u64 (tn (x1))))) (by intro x hx; obtain ⟨u0, z0⟩ := hx.has 3 0 rfl (by simp); have q0 := hx.soft 3 0 rfl; obtain ⟨u1, z1⟩ := hx.has 3 1 rfl (by simp); have q1 := hx.soft 3 1 rfl; go_simp; (first | done | rfl)) (fun x hx => ((hx.put 3 0 (.int .u64 (tn (x0.V &&& ~~~x1))) rfl).put 3 1 (.int .u64 (tn (x1))) rfl)) ?_
  refine lin_done ?_
  intro W7 hx
  replace HS := hid hx
  clear hx
  -- region 9
  go_upto_region 9 with fail
  refine lin_begin (St w [⟨w.heap.size, [some (.int .u64 (tn (x0.A.lo))), some (.int .u64 (tn (x0.A.hi))), some (.int .u64 (tn (x0.B.lo))), some (.int .u64 (tn (x0.B.hi))), some (.int .u64 (tn (x0.V))), some (.int .u64 (tn (x0.W))), some (.int .i64 (ti (x0.N)))], 60⟩, ⟨k1, [some (.int .i64 (ti (minI x0.A.lo x0.A.hi))), some (.int .i64 (ti (maxI x0.A.lo x0.A.hi)))], 38⟩, ⟨k2, [some (.int .i64 (ti (minI x0.B.lo x0.B.hi))), some (.int .i64 (ti (maxI x0.B.lo x0.B.hi)))], 38⟩, ⟨k3, [some (.int .u64 (tn (x0.V &&& ~~~x1))), some (.int .u64 (tn (x1)))], 51⟩]) rfl HS.out ?_
  refine lin_val (i := 0) (v := .pointer (some ⟨k3, 0, none⟩)) rfl rfl (by rfl) (by intro x hx; go_simp; (first | done | exact rfl)) ?_
  simp only [List.set_cons_succ, List.set_cons_zero]
  refine lin_val (i := 1) (v := .int .u64 (tn (x0.V &&& ~~~x1))) rfl rfl (by rfl) (by intro x hx; have f0 := hx.load 3 0 rfl rfl; go_simp; (first | done | exact rfl)) ?_
  simp only [List.set_cons_succ, List.set_cons_zero]
  refine lin_val (i := 2) (v := .pointer (some ⟨w.heap.size, 5, none⟩)) rfl rfl (by rfl) (by intro x hx; go_simp; (first | done | exact rfl)) ?_
  simp only [List.set_cons_succ, List.set_cons_zero]
  refine lin_val (i := 3) (v := .int .u64 (tn (x0.W))) rfl rfl (by rfl) (by intro x hx; have f0 := hx.load 0 5 rfl rfl; go_simp; (first | done | exact rfl)) ?_
  simp only [List.set_cons_succ, List.set_cons_zero]
  refine lin_val (i := 4) (v := .int .u64 (tn (x1))) rfl rfl (by rfl) (by intro x hx; go_simp; (first | done | exact rfl)) ?_
  simp only [List.set_cons_succ, List.set_cons_zero]
  refine lin_val (i := 5) (v := .int .u64 (tn (x0.W &&& x1))) rfl rfl (by rfl) (by intro x hx; go_simp; (first | done | exact andUT x0.W x1 | exact congrArg _ (andUT x0.W x1) | (rw [andUT x0.W x1]; done) | (rw [andUT x0.W x1]; rfl))) ?_
  simp only [List.set_cons_succ, List.set_cons_zero]
  refine lin_val (i := 6) (v := .int .u64 (tn ((x0.V &&& ~~~x1) ||| (x0.W &&& x1)))) rfl rfl (by rfl) (by intro x hx; go_simp; (first | done | exact orUT (x0.V &&& ~~~x1) (x0.W &&& x1) | exact congrArg _ (orUT (x0.V &&& ~~~x1) (x0.W &&& x1)) | (rw [orUT (x0.V &&& ~~~x1) (x0.W &&& x1)]; done) | (rw [orUT (x0.V &&& ~~~x1) (x0.W &&& x1)]; rfl))) ?_
  simp only [List.set_cons_succ, List.set_cons_zero]
  refine lin_val (i := 7) (v := .int .u64 (tn ((x0.V &&& ~~~x1) ||| (x0.W &&& x1)))) rfl rfl (by rfl) (by intro x hx; go_simp; (first | done | exact rfl)) ?_
  simp only [List.set_cons_succ, List.set_cons_zero]
  refine lin_done ?_
  intro W8 hx
  replace HS := hid hx
  clear hx
  -- region 10
  go_upto_region 10 with fail
  refine lin_begin (St w [⟨w.heap.size, [some (.int .u64 (tn (x0.A.lo))), some (.int .u64 (tn (x0.A.hi))), some (.int .u64 (tn (x0.B.lo))), some (.int .u64 (tn (x0.B.hi))), some (.int .u64 (tn (x0.V))), some (.int .u64 (tn (x0.W))), some (.int .i64 (ti (x0.N)))], 60⟩, ⟨k1, [some (.int .i64 (ti (minI x0.A.lo x0.A.hi))), some (.int .i64 (ti (maxI x0.A.lo x0.A.hi)))], 38⟩, ⟨k2, [some (.int .i64 (ti (minI x0.B.lo x0.B.hi))), some (.int .i64 (ti (maxI x0.B.lo x0.B.hi)))], 38⟩, ⟨k3, [some (.int .u64 (tn (x0.V &&& ~~~x1))), some (.int .u64 (tn (x1)))], 51⟩]) rfl HS.out ?_
  refine lin_val (i := 0) (v := .agg #[.int .i64 (ti (minI x0.A.lo x0.A.hi)), .int .i64 (ti (maxI x0.A.lo x0.A.hi))]) rfl rfl (by rfl) (by intro x hx; have f0 := hx.load 1 0 rfl rfl; have f1 := hx.load 1 1 rfl rfl; go_simp; (first | done | exact rfl)) ?_
  simp only [List.set_cons_succ, List.set_cons_zero]
  refine lin_val (i := 1) (v := .agg #[.int .i64 (ti (minI x0.B.lo x0.B.hi)), .int .i64 (ti (maxI x0.B.lo x0.B.hi))]) rfl rfl (by rfl) (by intro x hx; have f0 := hx.load 2 0 rfl rfl; have f1 := hx.load 2 1 rfl rfl; go_simp; (first | done | exact rfl)) ?_
  simp only [List.set_cons_succ, List.set_cons_zero]
  refine lin_call (i := 2) (f := 48) (args := #[.agg #[.int .i64 (ti (minI x0.A.lo x0.A.hi)), .int .i64 (ti (maxI x0.A.lo x0.A.hi))], .agg #[.int .i64 (ti (minI x0.B.lo x0.B.hi)), .int .i64 (ti (maxI x0.B.lo x0.B.hi))]]) (v := .tuple #[.agg #[.int .i64 (ti (((span_meet_int64 (P.mk (minI x0.A.lo x0.A.hi) (maxI x0.A.lo x0.A.hi)) (P.mk (minI x0.B.lo x0.B.hi) (maxI x0.B.lo x0.B.hi))).1).lo)), .int .i64 (ti (((span_meet_int64 (P.mk (minI x0.A.lo x0.A.hi) (maxI x0.A.lo x0.A.hi)) (P.mk (minI x0.B.lo x0.B.hi) (maxI x0.B.lo x0.B.hi))).1).hi))], .bool ((span_meet_int64 (P.mk (minI x0.A.lo x0.A.hi) (maxI x0.A.lo x0.A.hi)) (P.mk (minI x0.B.lo x0.B.hi) (maxI x0.B.lo x0.B.hi))).2)]) (st_ups _ _) rfl rfl (by rfl) (fun x hx => by kernel_rfl) (by intro x hx; exact span_Smeet_any (P.mk (minI x0.A.lo x0.A.hi) (maxI x0.A.lo x0.A.hi)) (P.mk (minI x0.B.lo x0.B.hi) (maxI x0.B.lo x0.B.hi)) _) ?_
  simp only [List.set_cons_succ, List.set_cons_zero]
  refine lin_val (i := 3) (v := .tuple #[.agg #[.int .i64 (ti (((span_meet_int64 (P.mk (minI x0.A.lo x0.A.hi) (maxI x0.A.lo x0.A.hi)) (P.mk (minI x0.B.lo x0.B.hi) (maxI x0.B.lo x0.B.hi))).1).lo)), .int .i64 (ti (((span_meet_int64 (P.mk (minI x0.A.lo x0.A.hi) (maxI x0.A.lo x0.A.hi)) (P.mk (minI x0.B.lo x0.B.hi) (maxI x0.B.lo x0.B.hi))).1).hi))], .bool ((span_meet_int64 (P.mk (minI x0.A.lo x0.A.hi) (maxI x0.A.lo x0.A.hi)) (P.mk (minI x0.B.lo x0.B.hi) (maxI x0.B.lo x0.B.hi))).2)]) rfl rfl (by rfl) (by intro x hx; go_simp; (first | done | exact rfl)) ?_
  simp only [List.set_cons_succ, List.set_cons_zero]
  refine lin_val (i := 4) (v := .agg #[.int .i64 (ti (((span_meet_int64 (P.mk (minI x0.A.lo x0.A.hi) (maxI x0.A.lo x0.A.hi)) (P.mk (minI x0.B.lo x0.B.hi) (maxI x0.B.lo x0.B.hi))).1).lo)), .int .i64 (ti (((span_meet_int64 (P.mk (minI x0.A.lo x0.A.hi) (maxI x0.A.lo x0.A.hi)) (P.mk (minI x0.B.lo x0.B.hi) (maxI x0.B.lo x0.B.hi))).1).hi))]) rfl rfl (by rfl) (by intro x hx; go_simp; (first | done | exact rfl)) ?_
  simp only [List.set_cons_succ, List.set_cons_zero]
  refine lin_val (i := 5) (v := .bool ((span_meet_int64 (P.mk (minI x0.A.lo x0.A.hi) (maxI x0.A.lo x0.A.hi)) (P.mk (minI x0.B.lo x0.B.hi) (maxI x0.B.lo x0.B.hi))).2)) rfl rfl (by rfl) (by intro x hx; go_simp; (first | done | exact rfl)) ?_
  simp only [List.set_cons_succ, List.set_cons_zero]
  refine lin_new (i := 6) rfl rfl (by rfl) [.int .i64 0, .int .i64 0] 38 (fun k => .pointer (some ⟨k, 0, none⟩)) [some (.int .i64 0), some (.int .i64 0)] (lessC_eq (lessC_eq (trivial))) (by intro x hx; go_simp; (first | done | exact rfl)) (fun k4 => ?_)
  simp only [List.set_cons_succ, List.set_cons_zero]
  refine lin_store (i := 7) (St w [⟨w.heap.size, [some (.int .u64 (tn (x0.A.lo))), some (.int .u64 (tn (x0.A.hi))), some (.int .u64 (tn (x0.B.lo))), some (.int .u64 (tn (x0.B.hi))), some (.int .u64 (tn (x0.V))), some (.int .u64 (tn (x0.W))), some (.int .i64 (ti (x0.N)))], 60⟩, ⟨k1, [some (.int .i64 (ti (minI x0.A.lo x0.A.hi))), some (.int .i64 (ti (maxI x0.A.lo x0.A.hi)))], 38⟩, ⟨k2, [some (.int .i64 (ti (minI x0.B.lo x0.B.hi))), some (.int .i64 (ti (maxI x0.B.lo x0.B.hi)))], 38⟩, ⟨k3, [some (.int .u64 (tn (x0.V &&& ~~~x1))), some (.int .u64 (tn (x1)))], 51⟩, ⟨k4, [some (.int .i64 (ti (((span_meet_int64 (P.mk (minI x0.A.lo x0.A.hi) (maxI x0.A.lo x0.A.hi)) (P.mk (minI x0.B.lo x0.B.hi) (maxI x0.B.lo x0.B.hi))).1).lo))), some (.int .i64 (ti (((span_meet_int64 (P.mk (minI x0.A.lo x0.A.hi) (maxI x0.A.lo x0.A.hi)) (P.mk (minI x0.B.lo x0.B.hi) (maxI x0.B.lo x0.B.hi))).1).hi)))], 38⟩]) rfl rfl (by rfl) (fun x => ((x.setCell ⟨k4, 0, none⟩ (.int .i64 (ti (((span_meet_int64 (P.mk (minI x0.A.lo x0.A.hi) (maxI x0.A.lo x0.A.hi)) (P.mk (minI x0.B.lo x0.B.hi) (maxI x0.B.lo x0.B.hi))).1).lo)))).setCell ⟨k4, 1, none⟩ (.int .i64 (ti (((span_meet_int64 (P.mk (minI x0.A.lo x0.A.hi) (maxI x0.A.lo x0.A.hi)) (P.mk (minI x0.B.lo x0.B.hi) (maxI x0.B.lo x0.B.hi))).1).hi))))) (by intro x hx; obtain ⟨u0, z0⟩ := hx.has 4 0 rfl (by simp); have q0 := hx.soft 4 0 rfl; obtain ⟨u1, z1⟩ := hx.has 4 1 rfl (by simp); have q1 := hx.soft 4 1 rfl; go_simp; (first | done | rfl)) (fun x hx => ((hx.put 4 0 (.int .i64 (ti (((span_meet_int64 (P.mk (minI x0.A.lo x0.A.hi) (maxI x0.A.lo x0.A.hi)) (P.mk (minI x0.B.lo x0.B.hi) (maxI x0.B.lo x0.B.hi))).1).lo))) rfl).put 4 1 (.int .i64 (ti (((span_meet_int64 (P.mk (minI x0.A.lo x0.A.hi) (maxI x0.A.lo x0.A.hi)) (P.mk (minI x0.B.lo x0.B.hi) (maxI x0.B.lo x0.B.hi))).1).hi))) rfl)) ?_
  refine lin_val (i := 8) (v := .bool ((span_meet_int64 (P.mk (minI x0.A.lo x0.A.hi) (maxI x0.A.lo x0.A.hi)) (P.mk (minI x0.B.lo x0.B.hi) (maxI x0.B.lo x0.B.hi))).2)) rfl rfl (by rfl) (by intro x hx; go_simp; (first | done | exact rfl)) ?_
  simp only [List.set_cons_succ, List.set_cons_zero]
  refine lin_done ?_
  intro W9 hx
  replace HS := hid hx
  clear hx
  -- region 11
  go_upto_region 11 with fail
  refine lin_begin (St w [⟨w.heap.size, [some (.int .u64 (tn (x0.A.lo))), some (.int .u64 (tn (x0.A.hi))), some (.int .u64 (tn (x0.B.lo))), some (.int .u64 (tn (x0.B.hi))), some (.int .u64 (tn (x0.V))), some (.int .u64 (tn (x0.W))), some (.int .i64 (ti (x0.N)))], 60⟩, ⟨k1, [some (.int .i64 (ti (minI x0.A.lo x0.A.hi))), some (.int .i64 (ti (maxI x0.A.lo x0.A.hi)))], 38⟩, ⟨k2, [some (.int .i64 (ti (minI x0.B.lo x0.B.hi))), some (.int .i64 (ti (maxI x0.B.lo x0.B.hi)))], 38⟩, ⟨k3, [some (.int .u64 (tn (x0.V &&& ~~~x1))), some (.int .u64 (tn (x1)))], 51⟩, ⟨k4, [some (.int .i64 (ti (((span_meet_int64 (P.mk (minI x0.A.lo x0.A.hi) (maxI x0.A.lo x0.A.hi)) (P.mk (minI x0.B.lo x0.B.hi) (maxI x0.B.lo x0.B.hi))).1).lo))), some (.int .i64 (ti (((span_meet_int64 (P.mk (minI x0.A.lo x0.A.hi) (maxI x0.A.lo x0.A.hi)) (P.mk (minI x0.B.lo x0.B.hi) (maxI x0.B.lo x0.B.hi))).1).hi)))], 38⟩]) rfl HS.out ?_
  refine lin_val (i := 0) (v := .agg #[.int .i64 (ti (minI x0.A.lo x0.A.hi)), .int .i64 (ti (maxI x0.A.lo x0.A.hi))]) rfl rfl (by rfl) (by intro x hx; have f0 := hx.load 1 0 rfl rfl; have f1 := hx.load 1 1 rfl rfl; go_simp; (first | done | exact rfl)) ?_
  simp only [List.set_cons_succ, List.set_cons_zero]
  refine lin_val (i := 1) (v := .agg #[.int .i64 (ti (minI x0.B.lo x0.B.hi)), .int .i64 (ti (maxI x0.B.lo x0.B.hi))]) rfl rfl (by rfl) (by intro x hx; have f0 := hx.load 2 0 rfl rfl; have f1 := hx.load 2 1 rfl rfl; go_simp; (first | done | exact rfl)) ?_
  simp only [List.set_cons_succ, List.set_cons_zero]
  refine lin_call (i := 2) (f := 58) (args := #[.agg #[.int .i64 (ti (minI x0.A.lo x0.A.hi)), .int .i64 (ti (maxI x0.A.lo x0.A.hi))], .agg #[.int .i64 (ti (minI x0.B.lo x0.B.hi)), .int .i64 (ti (maxI x0.B.lo x0.B.hi))]]) (v := .agg #[.int .i64 (ti (minI (P.mk (minI x0.A.lo x0.A.hi) (maxI x0.A.lo x0.A.hi)).lo (P.mk (minI x0.B.lo x0.B.hi) (maxI x0.B.lo x0.B.hi)).lo)), .int .i64 (ti (maxI (P.mk (minI x0.A.lo x0.A.hi) (maxI x0.A.lo x0.A.hi)).hi (P.mk (minI x0.B.lo x0.B.hi) (maxI x0.B.lo x0.B.hi)).hi))]) (st_ups _ _) rfl rfl (by rfl) (fun x hx => by kernel_rfl) (by intro x hx; exact span_Sjoin_any (P.mk (minI x0.A.lo x0.A.hi) (maxI x0.A.lo x0.A.hi)) (P.mk (minI x0.B.lo x0.B.hi) (maxI x0.B.lo x0.B.hi)) _) ?_
  simp only [List.set_cons_succ, List.set_cons_zero]
  refine lin_val (i := 3) (v := .int .i64 (ti ((minI x0.A.lo x0.A.hi) + (insideV (P.mk 0#64 ((maxI x0.A.lo x0.A.hi) - (minI x0.A.lo x0.A.hi))) x0.V)))) rfl rfl (by rfl) (by intro x hx; go_simp; (first | done | exact rfl)) ?_
  simp only [List.set_cons_succ, List.set_cons_zero]
  refine lin_call (i := 4) (f := 54) (args := #[.agg #[.int .i64 (ti (minI (P.mk (minI x0.A.lo x0.A.hi) (maxI x0.A.lo x0.A.hi)).lo (P.mk (minI x0.B.lo x0.B.hi) (maxI x0.B.lo x0.B.hi)).lo)), .int .i64 (ti (maxI (P.mk (minI x0.A.lo x0.A.hi) (maxI x0.A.lo x0.A.hi)).hi (P.mk (minI x0.B.lo x0.B.hi) (maxI x0.B.lo x0.B.hi)).hi))], .int .i64 (ti ((minI x0.A.lo x0.A.hi) + (insideV (P.mk 0#64 ((maxI x0.A.lo x0.A.hi) - (minI x0.A.lo x0.A.hi))) x0.V)))]) (v := .bool true) (st_ups _ _) rfl rfl (by rfl) (fun x hx => by kernel_rfl) (by intro x hx; exact calls_is (span_Sin_any (P.mk (minI (P.mk (minI x0.A.lo x0.A.hi) (maxI x0.A.lo x0.A.hi)).lo (P.mk (minI x0.B.lo x0.B.hi) (maxI x0.B.lo x0.B.hi)).lo) (maxI (P.mk (minI x0.A.lo x0.A.hi) (maxI x0.A.lo x0.A.hi)).hi (P.mk (minI x0.B.lo x0.B.hi) (maxI x0.B.lo x0.B.hi)).hi)) ((minI x0.A.lo x0.A.hi) + (insideV (P.mk 0#64 ((maxI x0.A.lo x0.A.hi) - (minI x0.A.lo x0.A.hi))) x0.V)) _) (congrArg Value.bool (sin_of (sjoin_in HA.out)))) ?_
  simp only [List.set_cons_succ, List.set_cons_zero]
  refine lin_val (i := 5) (v := .bool true) rfl rfl (by rfl) (by intro x hx; go_simp; (first | done | exact rfl)) ?_
  simp only [List.set_cons_succ, List.set_cons_zero]
  refine lin_val (i := 6) (v := .agg #[.int .i64 (ti (minI x0.B.lo x0.B.hi)), .int .i64 (ti (maxI x0.B.lo x0.B.hi))]) rfl rfl (by rfl) (by intro x hx; have f0 := hx.load 2 0 rfl rfl; have f1 := hx.load 2 1 rfl rfl; go_simp; (first | done | exact rfl)) ?_
  simp only [List.set_cons_succ, List.set_cons_zero]
  refine lin_val (i := 7) (v := .int .i64 (ti ((minI x0.A.lo x0.A.hi) + (insideV (P.mk 0#64 ((maxI x0.A.lo x0.A.hi) - (minI x0.A.lo x0.A.hi))) x0.V)))) rfl rfl (by rfl) (by intro x hx; go_simp; (first | done | exact rfl)) ?_
  simp only [List.set_cons_succ, List.set_cons_zero]
  refine lin_call (i := 8) (f := 54) (args := #[.agg #[.int .i64 (ti (minI x0.B.lo x0.B.hi)), .int .i64 (ti (maxI x0.B.lo x0.B.hi))], .int .i64 (ti ((minI x0.A.lo x0.A.hi) + (insideV (P.mk 0#64 ((maxI x0.A.lo x0.A.hi) - (minI x0.A.lo x0.A.hi))) x0.V)))]) (v := .bool (span_within_int64 (P.mk ((minI x0.A.lo x0.A.hi) + (insideV (P.mk 0#64 ((maxI x0.A.lo x0.A.hi) - (minI x0.A.lo x0.A.hi))) x0.V)) ((minI x0.A.lo x0.A.hi) + (insideV (P.mk 0#64 ((maxI x0.A.lo x0.A.hi) - (minI x0.A.lo x0.A.hi))) x0.V))) (P.mk (minI x0.B.lo x0.B.hi) (maxI x0.B.lo x0.B.hi)))) (st_ups _ _) rfl rfl (by rfl) (fun x hx => by kernel_rfl) (by intro x hx; exact span_Sin_any (P.mk (minI x0.B.lo x0.B.hi) (maxI x0.B.lo x0.B.hi)) ((minI x0.A.lo x0.A.hi) + (insideV (P.mk 0#64 ((maxI x0.A.lo x0.A.hi) - (minI x0.A.lo x0.A.hi))) x0.V)) _) ?_
  simp only [List.set_cons_succ, List.set_cons_zero]
  refine lin_val (i := 9) (v := .bool ((!(span_within_int64 (P.mk ((minI x0.A.lo x0.A.hi) + (insideV (P.mk 0#64 ((maxI x0.A.lo x0.A.hi) - (minI x0.A.lo x0.A.hi))) x0.V)) ((minI x0.A.lo x0.A.hi) + (insideV (P.mk 0#64 ((maxI x0.A.lo x0.A.hi) - (minI x0.A.lo x0.A.hi))) x0.V))) (P.mk (minI x0.B.lo x0.B.hi) (maxI x0.B.lo x0.B.hi)))))) rfl rfl (by rfl) (by intro x hx; go_simp; (first | done | exact rfl)) ?_
  simp only [List.set_cons_succ, List.set_cons_zero]
  refine lin_val (i := 10) (v := .bool ((!(span_within_int64 (P.mk ((minI x0.A.lo x0.A.hi) + (insideV (P.mk 0#64 ((maxI x0.A.lo x0.A.hi) - (minI x0.A.lo x0.A.hi))) x0.V)) ((minI x0.A.lo x0.A.hi) + (insideV (P.mk 0#64 ((maxI x0.A.lo x0.A.hi) - (minI x0.A.lo x0.A.hi))) x0.V))) (P.mk (minI x0.B.lo x0.B.hi) (maxI x0.B.lo x0.B.hi)))))) rfl rfl (by rfl) (by intro x hx; go_simp; (first | done | exact rfl)) ?_
  simp only [List.set_cons_succ, List.set_cons_zero]
  cases h1 : ((!(span_within_int64 (P.mk ((minI x0.A.lo x0.A.hi) + (insideV (P.mk 0#64 ((maxI x0.A.lo x0.A.hi) - (minI x0.A.lo x0.A.hi))) x0.V)) ((minI x0.A.lo x0.A.hi) + (insideV (P.mk 0#64 ((maxI x0.A.lo x0.A.hi) - (minI x0.A.lo x0.A.hi))) x0.V))) (P.mk (minI x0.B.lo x0.B.hi) (maxI x0.B.lo x0.B.hi)))))
  · replace h1 := hid h1
    refine lin_val (i := 11) (v := .bool ((span_meet_int64 (P.mk (minI x0.A.lo x0.A.hi) (maxI x0.A.lo x0.A.hi)) (P.mk (minI x0.B.lo x0.B.hi) (maxI x0.B.lo x0.B.hi))).2)) rfl rfl (by rfl) (by intro x hx; go_simp; (first | done | exact rfl)) ?_
    simp only [List.set_cons_succ, List.set_cons_zero]
    refine lin_val (i := 12) (v := .bool ((span_meet_int64 (P.mk (minI x0.A.lo x0.A.hi) (maxI x0.A.lo x0.A.hi)) (P.mk (minI x0.B.lo x0.B.hi) (maxI x0.B.lo x0.B.hi))).2)) rfl rfl (by rfl) (by intro x hx; go_simp; (first | done | exact rfl)) ?_
    simp only [List.set_cons_succ, List.set_cons_zero]
    rw [show ((span_meet_int64 (P.mk (minI x0.A.lo x0.A.hi) (maxI x0.A.lo x0.A.hi)) (P.mk (minI x0.B.lo x0.B.hi) (maxI x0.B.lo x0.B.hi))).2) = true from (smeet_in' HA.out (of_sin (nn h1.out))).1]
    refine lin_val (i := 13) (v := .agg #[.int .i64 (ti (((span_meet_int64 (P.mk (minI x0.A.lo x0.A.hi) (maxI x0.A.lo x0.A.hi)) (P.mk (minI x0.B.lo x0.B.hi) (maxI x0.B.lo x0.B.hi))).1).lo)), .int .i64 (ti (((span_meet_int64 (P.mk (minI x0.A.lo x0.A.hi) (maxI x0.A.lo x0.A.hi)) (P.mk (minI x0.B.lo x0.B.hi) (maxI x0.B.lo x0.B.hi))).1).hi))]) rfl rfl (by rfl) (by intro x hx; have f0 := hx.load 4 0 rfl rfl; have f1 := hx.load 4 1 rfl rfl; go_simp; (first | done | exact rfl)) ?_
    simp only [List.set_cons_succ, List.set_cons_zero]
    refine lin_val (i := 14) (v := .int .i64 (ti ((minI x0.A.lo x0.A.hi) + (insideV (P.mk 0#64 ((maxI x0.A.lo x0.A.hi) - (minI x0.A.lo x0.A.hi))) x0.V)))) rfl rfl (by rfl) (by intro x hx; go_simp; (first | done | exact rfl)) ?_
    simp only [List.set_cons_succ, List.set_cons_zero]
    refine lin_call (i := 15) (f := 54) (args := #[.agg #[.int .i64 (ti (((span_meet_int64 (P.mk (minI x0.A.lo x0.A.hi) (maxI x0.A.lo x0.A.hi)) (P.mk (minI x0.B.lo x0.B.hi) (maxI x0.B.lo x0.B.hi))).1).lo)), .int .i64 (ti (((span_meet_int64 (P.mk (minI x0.A.lo x0.A.hi) (maxI x0.A.lo x0.A.hi)) (P.mk (minI x0.B.lo x0.B.hi) (maxI x0.B.lo x0.B.hi))).1).hi))], .int .i64 (ti ((minI x0.A.lo x0.A.hi) + (insideV (P.mk 0#64 ((maxI x0.A.lo x0.A.hi) - (minI x0.A.lo x0.A.hi))) x0.V)))]) (v := .bool true) (st_ups _ _) rfl rfl (by rfl) (fun x hx => by kernel_rfl) (by intro x hx; exact calls_is (span_Sin_any ((span_meet_int64 (P.mk (minI x0.A.lo x0.A.hi) (maxI x0.A.lo x0.A.hi)) (P.mk (minI x0.B.lo x0.B.hi) (maxI x0.B.lo x0.B.hi))).1) ((minI x0.A.lo x0.A.hi) + (insideV (P.mk 0#64 ((maxI x0.A.lo x0.A.hi) - (minI x0.A.lo x0.A.hi))) x0.V)) _) (congrArg Value.bool (sin_of (smeet_in' HA.out (of_sin (nn h1.out))).2))) ?_
    simp only [List.set_cons_succ, List.set_cons_zero]
    refine lin_val (i := 16) (v := .bool true) rfl rfl (by rfl) (by intro x hx; go_simp; (first | done | exact rfl)) ?_
    simp only [List.set_cons_succ, List.set_cons_zero]
    refine lin_val (i := 17) (v := .bool true) rfl rfl (by rfl) (by intro x hx; go_simp; (first | done | exact rfl)) ?_
    simp only [List.set_cons_succ, List.set_cons_zero]
    refine lin_val (i := 18) (v := .bool true) rfl rfl (by rfl) (by intro x hx; go_simp; (first | done | exact rfl)) ?_
    simp only [List.set_cons_succ, List.set_cons_zero]
    refine lin_val (i := 19) (v := .bool true) rfl rfl (by rfl) (by intro x hx; go_simp; (first | done | exact rfl)) ?_
    simp only [List.set_cons_succ, List.set_cons_zero]
    refine lin_val (i := 20) (v := .agg #[.int .u64 (tn (x0.V &&& ~~~x1)), .int .u64 (tn (x1))]) rfl rfl (by rfl) (by intro x hx; have f0 := hx.load 3 0 rfl rfl; have f1 := hx.load 3 1 rfl rfl; go_simp; (first | done | exact rfl)) ?_
    simp only [List.set_cons_succ, List.set_cons_zero]
    refine lin_call (i := 21) (f := 75) (args := #[.agg #[.int .u64 (tn (x0.V &&& ~~~x1)), .int .u64 (tn (x1))]]) (v := .agg #[.int .u64 (tn ((P.mk (x0.V &&& ~~~x1) x1).lo)), .int .u64 (tn ((P.mk (x0.V &&& ~~~x1) x1).lo ||| (P.mk (x0.V &&& ~~~x1) x1).hi))]) (st_ups _ _) rfl rfl (by rfl) (fun x hx => by kernel_rfl) (by intro x hx; exact span_Bounds_any (P.mk (x0.V &&& ~~~x1) x1) _) ?_
    simp only [List.set_cons_succ, List.set_cons_zero]
    refine lin_val (i := 22) (v := .int .u64 (tn ((x0.V &&& ~~~x1) ||| (x0.W &&& x1)))) rfl rfl (by rfl) (by intro x hx; go_simp; (first | done | exact rfl)) ?_
    simp only [List.set_cons_succ, List.set_cons_zero]
    refine lin_call (i := 23) (f := 19) (args := #[.agg #[.int .u64 (tn ((P.mk (x0.V &&& ~~~x1) x1).lo)), .int .u64 (tn ((P.mk (x0.V &&& ~~~x1) x1).lo ||| (P.mk (x0.V &&& ~~~x1) x1).hi))], .int .u64 (tn ((x0.V &&& ~~~x1) ||| (x0.W &&& x1)))]) (v := .bool true) (st_ups _ _) rfl rfl (by rfl) (fun x hx => by kernel_rfl) (by intro x hx; exact calls_is (span_In_any (P.mk ((P.mk (x0.V &&& ~~~x1) x1).lo) ((P.mk (x0.V &&& ~~~x1) x1).lo ||| (P.mk (x0.V &&& ~~~x1) x1).hi)) ((x0.V &&& ~~~x1) ||| (x0.W &&& x1)) _) (congrArg Value.bool (in_of (tnum_in (tnum_any _ _ _))))) ?_
    simp only [List.set_cons_succ, List.set_cons_zero]
    refine lin_val (i := 24) (v := .bool true) rfl rfl (by rfl) (by intro x hx; go_simp; (first | done | exact rfl)) ?_
    simp only [List.set_cons_succ, List.set_cons_zero]
    refine lin_val (i := 25) (v := .bool true) rfl rfl (by rfl) (by intro x hx; go_simp; (first | done | exact rfl)) ?_
    simp only [List.set_cons_succ, List.set_cons_zero]
    refine lin_val (i := 26) (v := .agg #[.int .u64 (tn (x0.V &&& ~~~x1)), .int .u64 (tn (x1))]) rfl rfl (by rfl) (by intro x hx; have f0 := hx.load 3 0 rfl rfl; have f1 := hx.load 3 1 rfl rfl; go_simp; (first | done | exact rfl)) ?_
    simp only [List.set_cons_succ, List.set_cons_zero]
    refine lin_call (i := 27) (f := 77) (args := #[.agg #[.int .u64 (tn (x0.V &&& ~~~x1)), .int .u64 (tn (x1))]]) (v := .agg #[.int .i64 (ti ((span_Sbounds (P.mk (x0.V &&& ~~~x1) x1)).lo)), .int .i64 (ti ((span_Sbounds (P.mk (x0.V &&& ~~~x1) x1)).hi))]) (st_ups _ _) rfl rfl (by rfl) (fun x hx => by kernel_rfl) (by intro x hx; exact span_Sbounds_any (P.mk (x0.V &&& ~~~x1) x1) _) ?_
    simp only [List.set_cons_succ, List.set_cons_zero]
    refine lin_val (i := 28) (v := .int .u64 (tn ((x0.V &&& ~~~x1) ||| (x0.W &&& x1)))) rfl rfl (by rfl) (by intro x hx; go_simp; (first | done | exact rfl)) ?_
    simp only [List.set_cons_succ, List.set_cons_zero]
    refine lin_val (i := 29) (v := .int .i64 (ti ((x0.V &&& ~~~x1) ||| (x0.W &&& x1)))) rfl rfl (by rfl) (by intro x hx; go_simp; (first | done | exact toI64 ((x0.V &&& ~~~x1) ||| (x0.W &&& x1)) | exact congrArg _ (toI64 ((x0.V &&& ~~~x1) ||| (x0.W &&& x1))) | (rw [toI64 ((x0.V &&& ~~~x1) ||| (x0.W &&& x1))]; done) | (rw [toI64 ((x0.V &&& ~~~x1) ||| (x0.W &&& x1))]; rfl))) ?_
    simp only [List.set_cons_succ, List.set_cons_zero]
    refine lin_call (i := 30) (f := 54) (args := #[.agg #[.int .i64 (ti ((span_Sbounds (P.mk (x0.V &&& ~~~x1) x1)).lo)), .int .i64 (ti ((span_Sbounds (P.mk (x0.V &&& ~~~x1) x1)).hi))], .int .i64 (ti ((x0.V &&& ~~~x1) ||| (x0.W &&& x1)))]) (v := .bool true) (st_ups _ _) rfl rfl (by rfl) (fun x hx => by kernel_rfl) (by intro x hx; exact calls_is (span_Sin_any (span_Sbounds (P.mk (x0.V &&& ~~~x1) x1)) ((x0.V &&& ~~~x1) ||| (x0.W &&& x1)) _) (congrArg Value.bool (sin_of (sbounds_in (tnum_any _ _ _))))) ?_
    simp only [List.set_cons_succ, List.set_cons_zero]
    refine lin_val (i := 31) (v := .bool true) rfl rfl (by rfl) (by intro x hx; go_simp; (first | done | exact rfl)) ?_
    simp only [List.set_cons_succ, List.set_cons_zero]
    refine lin_val (i := 32) (v := .bool true) rfl rfl (by rfl) (by intro x hx; go_simp; (first | done | exact rfl)) ?_
    simp only [List.set_cons_succ, List.set_cons_zero]
    refine lin_call (i := 33) (f := 12) (args := #[]) (v := .bool true) (st_ups _ _) rfl rfl (by rfl) (fun x hx => by kernel_rfl) (by intro x hx; exact law_known_any _) ?_
    simp only [List.set_cons_succ, List.set_cons_zero]
    refine lin_val (i := 34) (v := .bool true) rfl rfl (by rfl) (by intro x hx; go_simp; (first | done | exact rfl)) ?_
    simp only [List.set_cons_succ, List.set_cons_zero]
    refine lin_val (i := 35) (v := .bool true) rfl rfl (by rfl) (by intro x hx; go_simp; (first | done | exact rfl)) ?_
    simp only [List.set_cons_succ, List.set_cons_zero]
    refine lin_done ?_
    intro W10 hx
    replace HS := hid hx
    clear hx
    go_wp2
    exact bodyPost_ret (v := .bool true) (by simp [results, Try.results7, go_sem]) rfl ⟨rfl, HS.out.below⟩
  · replace h1 := hid h1
    refine lin_no (i := 11) rfl rfl (by kernel_rfl) ?_
    simp only [List.set_cons_succ, List.set_cons_zero]
    refine lin_no (i := 12) rfl rfl (by kernel_rfl) ?_
    simp only [List.set_cons_succ, List.set_cons_zero]
    refine lin_no (i := 13) rfl rfl (by kernel_rfl) ?_
    simp only [List.set_cons_succ, List.set_cons_zero]
    refine lin_no (i := 14) rfl rfl (by kernel_rfl) ?_
    simp only [List.set_cons_succ, List.set_cons_zero]
    refine lin_no (i := 15) rfl rfl (by kernel_rfl) ?_
    simp only [List.set_cons_succ, List.set_cons_zero]
    refine lin_no (i := 16) rfl rfl (by kernel_rfl) ?_
    simp only [List.set_cons_succ, List.set_cons_zero]
    refine lin_val (i := 17) (v := .bool true) rfl rfl (by rfl) (by intro x hx; go_simp; (first | done | exact rfl)) ?_
    simp only [List.set_cons_succ, List.set_cons_zero]
    refine lin_val (i := 18) (v := .bool true) rfl rfl (by rfl) (by intro x hx; go_simp; (first | done | exact rfl)) ?_
    simp only [List.set_cons_succ, List.set_cons_zero]
    refine lin_val (i := 19) (v := .bool true) rfl rfl (by rfl) (by intro x hx; go_simp; (first | done | exact rfl)) ?_
    simp only [List.set_cons_succ, List.set_cons_zero]
    refine lin_val (i := 20) (v := .agg #[.int .u64 (tn (x0.V &&& ~~~x1)), .int .u64 (tn (x1))]) rfl rfl (by rfl) (by intro x hx; have f0 := hx.load 3 0 rfl rfl; have f1 := hx.load 3 1 rfl rfl; go_simp; (first | done | exact rfl)) ?_
    simp only [List.set_cons_succ, List.set_cons_zero]
    refine lin_call (i := 21) (f := 75) (args := #[.agg #[.int .u64 (tn (x0.V &&& ~~~x1)), .int .u64 (tn (x1))]]) (v := .agg #[.int .u64 (tn ((P.mk (x0.V &&& ~~~x1) x1).lo)), .int .u64 (tn ((P.mk (x0.V &&& ~~~x1) x1).lo ||| (P.mk (x0.V &&& ~~~x1) x1).hi))]) (st_ups _ _) rfl rfl (by rfl) (fun x hx => by kernel_rfl) (by intro x hx; exact span_Bounds_any (P.mk (x0.V &&& ~~~x1) x1) _) ?_
    simp only [List.set_cons_succ, List.set_cons_zero]
    refine lin_val (i := 22) (v := .int .u64 (tn ((x0.V &&& ~~~x1) ||| (x0.W &&& x1)))) rfl rfl (by rfl) (by intro x hx; go_simp; (first | done | exact rfl)) ?_
    simp only [List.set_cons_succ, List.set_cons_zero]
    refine lin_call (i := 23) (f := 19) (args := #[.agg #[.int .u64 (tn ((P.mk (x0.V &&& ~~~x1) x1).lo)), .int .u64 (tn ((P.mk (x0.V &&& ~~~x1) x1).lo ||| (P.mk (x0.V &&& ~~~x1) x1).hi))], .int .u64 (tn ((x0.V &&& ~~~x1) ||| (x0.W &&& x1)))]) (v := .bool true) (st_ups _ _) rfl rfl (by rfl) (fun x hx => by kernel_rfl) (by intro x hx; exact calls_is (span_In_any (P.mk ((P.mk (x0.V &&& ~~~x1) x1).lo) ((P.mk (x0.V &&& ~~~x1) x1).lo ||| (P.mk (x0.V &&& ~~~x1) x1).hi)) ((x0.V &&& ~~~x1) ||| (x0.W &&& x1)) _) (congrArg Value.bool (in_of (tnum_in (tnum_any _ _ _))))) ?_
    simp only [List.set_cons_succ, List.set_cons_zero]
    refine lin_val (i := 24) (v := .bool true) rfl rfl (by rfl) (by intro x hx; go_simp; (first | done | exact rfl)) ?_
    simp only [List.set_cons_succ, List.set_cons_zero]
    refine lin_val (i := 25) (v := .bool true) rfl rfl (by rfl) (by intro x hx; go_simp; (first | done | exact rfl)) ?_
    simp only [List.set_cons_succ, List.set_cons_zero]
    refine lin_val (i := 26) (v := .agg #[.int .u64 (tn (x0.V &&& ~~~x1)), .int .u64 (tn (x1))]) rfl rfl (by rfl) (by intro x hx; have f0 := hx.load 3 0 rfl rfl; have f1 := hx.load 3 1 rfl rfl; go_simp; (first | done | exact rfl)) ?_
    simp only [List.set_cons_succ, List.set_cons_zero]
    refine lin_call (i := 27) (f := 77) (args := #[.agg #[.int .u64 (tn (x0.V &&& ~~~x1)), .int .u64 (tn (x1))]]) (v := .agg #[.int .i64 (ti ((span_Sbounds (P.mk (x0.V &&& ~~~x1) x1)).lo)), .int .i64 (ti ((span_Sbounds (P.mk (x0.V &&& ~~~x1) x1)).hi))]) (st_ups _ _) rfl rfl (by rfl) (fun x hx => by kernel_rfl) (by intro x hx; exact span_Sbounds_any (P.mk (x0.V &&& ~~~x1) x1) _) ?_
    simp only [List.set_cons_succ, List.set_cons_zero]
    refine lin_val (i := 28) (v := .int .u64 (tn ((x0.V &&& ~~~x1) ||| (x0.W &&& x1)))) rfl rfl (by rfl) (by intro x hx; go_simp; (first | done | exact rfl)) ?_
    simp only [List.set_cons_succ, List.set_cons_zero]
    refine lin_val (i := 29) (v := .int .i64 (ti ((x0.V &&& ~~~x1) ||| (x0.W &&& x1)))) rfl rfl (by rfl) (by intro x hx; go_simp; (first | done | exact toI64 ((x0.V &&& ~~~x1) ||| (x0.W &&& x1)) | exact congrArg _ (toI64 ((x0.V &&& ~~~x1) ||| (x0.W &&& x1))) | (rw [toI64 ((x0.V &&& ~~~x1) ||| (x0.W &&& x1))]; done) | (rw [toI64 ((x0.V &&& ~~~x1) ||| (x0.W &&& x1))]; rfl))) ?_
    simp only [List.set_cons_succ, List.set_cons_zero]
    refine lin_call (i := 30) (f := 54) (args := #[.agg #[.int .i64 (ti ((span_Sbounds (P.mk (x0.V &&& ~~~x1) x1)).lo)), .int .i64 (ti ((span_Sbounds (P.mk (x0.V &&& ~~~x1) x1)).hi))], .int .i64 (ti ((x0.V &&& ~~~x1) ||| (x0.W &&& x1)))]) (v := .bool true) (st_ups _ _) rfl rfl (by rfl) (fun x hx => by kernel_rfl) (by intro x hx; exact calls_is (span_Sin_any (span_Sbounds (P.mk (x0.V &&& ~~~x1) x1)) ((x0.V &&& ~~~x1) ||| (x0.W &&& x1)) _) (congrArg Value.bool (sin_of (sbounds_in (tnum_any _ _ _))))) ?_
    simp only [List.set_cons_succ, List.set_cons_zero]
    refine lin_val (i := 31) (v := .bool true) rfl rfl (by rfl) (by intro x hx; go_simp; (first | done | exact rfl)) ?_
    simp only [List.set_cons_succ, List.set_cons_zero]
    refine lin_val (i := 32) (v := .bool true) rfl rfl (by rfl) (by intro x hx; go_simp; (first | done | exact rfl)) ?_
    simp only [List.set_cons_succ, List.set_cons_zero]
    refine lin_call (i := 33) (f := 12) (args := #[]) (v := .bool true) (st_ups _ _) rfl rfl (by rfl) (fun x hx => by kernel_rfl) (by intro x hx; exact law_known_any _) ?_
    simp only [List.set_cons_succ, List.set_cons_zero]
    refine lin_val (i := 34) (v := .bool true) rfl rfl (by rfl) (by intro x hx; go_simp; (first | done | exact rfl)) ?_
    simp only [List.set_cons_succ, List.set_cons_zero]
    refine lin_val (i := 35) (v := .bool true) rfl rfl (by rfl) (by intro x hx; go_simp; (first | done | exact rfl)) ?_
    simp only [List.set_cons_succ, List.set_cons_zero]
    refine lin_done ?_
    intro W10 hx
    replace HS := hid hx
    clear hx
    go_wp2
    exact bodyPost_ret (v := .bool true) (by simp [results, Try.results7, go_sem]) rfl ⟨rfl, HS.out.below⟩
end Go.Proofs.Ytoojdndfjfmemaa.Sp
