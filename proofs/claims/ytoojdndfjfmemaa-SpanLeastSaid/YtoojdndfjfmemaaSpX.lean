/-
  The walk of the law SpanLeast.
-/
import Derived.Deep.DeepCutAuto
import Derived.Test.YtoojdndfjfmemaaSpF
import Derived.Test.YtoojdndfjfmemaaSpT
import Derived.Test.YtoojdndfjfmemaaSpU
import Derived.Test.YtoojdndfjfmemaaSpY
import Derived.Test.YtoojdndfjfmemaaSpP
import Derived.Test.YtoojdndfjfmemaaIf
namespace Go.Proofs.Ytoojdndfjfmemaa.Sp
open Go.RowKit Go.Proofs.Ytoojdndfjfmemaa.Num Go.Proofs.Ytoojdndfjfmemaa.Up
set_option maxRecDepth 100000 in
set_option maxHeartbeats 8000000 in
theorem spanLeast (x0 : Near) (x1 : BitVec 64)  (w : World) :
    Calls Try.prog 9 #[.agg #[.int .u64 (tn (x0.A.lo)), .int .u64 (tn (x0.A.hi)), .int .u64 (tn (x0.B.lo)), .int .u64 (tn (x0.B.hi)), .int .u64 (tn (x0.V)), .int .u64 (tn (x0.W)), .int .i64 (ti (x0.N))], .int .u64 (tn (x1))] w fun e w' => e = .returned (.bool true) ∧ Below w.heap.size w w' := by
  have HLA := hid (from_ok x0.A.lo x0.A.hi)
  go_enter Try.func9, Try.ntmps9
  have HS := hid ((st_nil w).alloc (k := w.heap.size) rfl [.int .u64 (tn (x0.A.lo)), .int .u64 (tn (x0.A.hi)), .int .u64 (tn (x0.B.lo)), .int .u64 (tn (x0.B.hi)), .int .u64 (tn (x0.V)), .int .u64 (tn (x0.W)), .int .i64 (ti (x0.N))] 60)
  -- region 1
  go_upto_region 1 with fail
  refine lin_begin (St w [⟨w.heap.size, [some (.int .u64 (tn (x0.A.lo))), some (.int .u64 (tn (x0.A.hi))), some (.int .u64 (tn (x0.B.lo))), some (.int .u64 (tn (x0.B.hi))), some (.int .u64 (tn (x0.V))), some (.int .u64 (tn (x0.W))), some (.int .i64 (ti (x0.N)))], 60⟩]) rfl HS.out ?_
  refine lin_val (i := 0) (v := .pointer (some ⟨w.heap.size, 0, none⟩)) rfl rfl (by rfl) (by intro x hx; go_simp; (first | done | exact rfl)) ?_
  simp only [List.set_cons_succ, List.set_cons_zero]
  refine lin_val (i := 1) (v := .pointer (some ⟨w.heap.size, 0, none⟩)) rfl rfl (by rfl) (by intro x hx; go_simp; (first | done | exact rfl)) ?_
  simp only [List.set_cons_succ, List.set_cons_zero]
  refine lin_val (i := 2) (v := .int .u64 (tn (x0.A.lo))) rfl rfl (by rfl) (by intro x hx; have f0 := hx.load 0 0 rfl rfl; go_simp; (first | done | exact rfl)) ?_
  simp only [List.set_cons_succ, List.set_cons_zero]
  refine lin_val (i := 3) (v := .pointer (some ⟨w.heap.size, 0, none⟩)) rfl rfl (by rfl) (by intro x hx; go_simp; (first | done | exact rfl)) ?_
  simp only [List.set_cons_succ, List.set_cons_zero]
  refine lin_val (i := 4) (v := .pointer (some ⟨w.heap.size, 1, none⟩)) rfl rfl (by rfl) (by intro x hx; go_simp; (first | done | exact rfl)) ?_
  simp only [List.set_cons_succ, List.set_cons_zero]
  refine lin_val (i := 5) (v := .int .u64 (tn (x0.A.hi))) rfl rfl (by rfl) (by intro x hx; have f0 := hx.load 0 1 rfl rfl; go_simp; (first | done | exact rfl)) ?_
  simp only [List.set_cons_succ, List.set_cons_zero]
  refine lin_call (i := 6) (f := 79) (args := #[.int .u64 (tn (x0.A.lo)), .int .u64 (tn (x0.A.hi))]) (v := .agg #[.int .u64 (tn ((fromP x0.A.lo x0.A.hi).lo)), .int .u64 (tn ((fromP x0.A.lo x0.A.hi).hi))]) (st_ups _ _) rfl rfl (by rfl) (fun x hx => by kernel_rfl) (by intro x hx; exact fromP_any x0.A.lo x0.A.hi _) ?_
  simp only [List.set_cons_succ, List.set_cons_zero]
  refine lin_new (i := 7) rfl rfl (by rfl) [.int .u64 0, .int .u64 0] 24 (fun k => .pointer (some ⟨k, 0, none⟩)) [some (.int .u64 0), some (.int .u64 0)] (lessC_eq (lessC_eq (trivial))) (by intro x hx; go_simp; (first | done | exact rfl)) (fun k1 => ?_)
  simp only [List.set_cons_succ, List.set_cons_zero]
  refine lin_store (i := 8) (St w [⟨w.heap.size, [some (.int .u64 (tn (x0.A.lo))), some (.int .u64 (tn (x0.A.hi))), some (.int .u64 (tn (x0.B.lo))), some (.int .u64 (tn (x0.B.hi))), some (.int .u64 (tn (x0.V))), some (.int .u64 (tn (x0.W))), some (.int .i64 (ti (x0.N)))], 60⟩, ⟨k1, [some (.int .u64 (tn ((fromP x0.A.lo x0.A.hi).lo))), some (.int .u64 (tn ((fromP x0.A.lo x0.A.hi).hi)))], 24⟩]) rfl rfl (by rfl) (fun x => ((x.setCell ⟨k1, 0, none⟩ (.int .u64 (tn ((fromP x0.A.lo x0.A.hi).lo)))).setCell ⟨k1, 1, none⟩ (.int .u64 (tn ((fromP x0.A.lo x0.A.hi).hi))))) (by intro x hx; obtain ⟨u0, z0⟩ := hx.has 1 0 rfl (by simp); have q0 := hx.soft 1 0 rfl; obtain ⟨u1, z1⟩ := hx.has 1 1 rfl (by simp); have q1 := hx.soft 1 1 rfl; go_simp; (first | done | rfl)) (fun x hx => ((hx.put 1 0 (.int .u64 (tn ((fromP x0.A.lo x0.A.hi).lo))) rfl).put 1 1 (.int .u64 (tn ((fromP x0.A.lo x0.A.hi).hi))) rfl)) ?_
  refine lin_done ?_
  intro W1 hx
  replace HS := hid hx
  clear hx
  -- region 2
  go_upto_region 2 with fail
  refine lin_begin (St w [⟨w.heap.size, [some (.int .u64 (tn (x0.A.lo))), some (.int .u64 (tn (x0.A.hi))), some (.int .u64 (tn (x0.B.lo))), some (.int .u64 (tn (x0.B.hi))), some (.int .u64 (tn (x0.V))), some (.int .u64 (tn (x0.W))), some (.int .i64 (ti (x0.N)))], 60⟩, ⟨k1, [some (.int .u64 (tn ((fromP x0.A.lo x0.A.hi).lo))), some (.int .u64 (tn ((fromP x0.A.lo x0.A.hi).hi)))], 24⟩]) rfl HS.out ?_
  refine lin_val (i := 0) (v := .pointer (some ⟨w.heap.size, 2, none⟩)) rfl rfl (by rfl) (by intro x hx; go_simp; (first | done | exact rfl)) ?_
  simp only [List.set_cons_succ, List.set_cons_zero]
  refine lin_val (i := 1) (v := .pointer (some ⟨w.heap.size, 2, none⟩)) rfl rfl (by rfl) (by intro x hx; go_simp; (first | done | exact rfl)) ?_
  simp only [List.set_cons_succ, List.set_cons_zero]
  refine lin_val (i := 2) (v := .int .u64 (tn (x0.B.lo))) rfl rfl (by rfl) (by intro x hx; have f0 := hx.load 0 2 rfl rfl; go_simp; (first | done | exact rfl)) ?_
  simp only [List.set_cons_succ, List.set_cons_zero]
  refine lin_val (i := 3) (v := .pointer (some ⟨w.heap.size, 2, none⟩)) rfl rfl (by rfl) (by intro x hx; go_simp; (first | done | exact rfl)) ?_
  simp only [List.set_cons_succ, List.set_cons_zero]
  refine lin_val (i := 4) (v := .pointer (some ⟨w.heap.size, 3, none⟩)) rfl rfl (by rfl) (by intro x hx; go_simp; (first | done | exact rfl)) ?_
  simp only [List.set_cons_succ, List.set_cons_zero]
  refine lin_val (i := 5) (v := .int .u64 (tn (x0.B.hi))) rfl rfl (by rfl) (by intro x hx; have f0 := hx.load 0 3 rfl rfl; go_simp; (first | done | exact rfl)) ?_
  simp only [List.set_cons_succ, List.set_cons_zero]
  refine lin_call (i := 6) (f := 79) (args := #[.int .u64 (tn (x0.B.lo)), .int .u64 (tn (x0.B.hi))]) (v := .agg #[.int .u64 (tn ((fromP x0.B.lo x0.B.hi).lo)), .int .u64 (tn ((fromP x0.B.lo x0.B.hi).hi))]) (st_ups _ _) rfl rfl (by rfl) (fun x hx => by kernel_rfl) (by intro x hx; exact fromP_any x0.B.lo x0.B.hi _) ?_
  simp only [List.set_cons_succ, List.set_cons_zero]
  refine lin_new (i := 7) rfl rfl (by rfl) [.int .u64 0, .int .u64 0] 24 (fun k => .pointer (some ⟨k, 0, none⟩)) [some (.int .u64 0), some (.int .u64 0)] (lessC_eq (lessC_eq (trivial))) (by intro x hx; go_simp; (first | done | exact rfl)) (fun k2 => ?_)
  simp only [List.set_cons_succ, List.set_cons_zero]
  refine lin_store (i := 8) (St w [⟨w.heap.size, [some (.int .u64 (tn (x0.A.lo))), some (.int .u64 (tn (x0.A.hi))), some (.int .u64 (tn (x0.B.lo))), some (.int .u64 (tn (x0.B.hi))), some (.int .u64 (tn (x0.V))), some (.int .u64 (tn (x0.W))), some (.int .i64 (ti (x0.N)))], 60⟩, ⟨k1, [some (.int .u64 (tn ((fromP x0.A.lo x0.A.hi).lo))), some (.int .u64 (tn ((fromP x0.A.lo x0.A.hi).hi)))], 24⟩, ⟨k2, [some (.int .u64 (tn ((fromP x0.B.lo x0.B.hi).lo))), some (.int .u64 (tn ((fromP x0.B.lo x0.B.hi).hi)))], 24⟩]) rfl rfl (by rfl) (fun x => ((x.setCell ⟨k2, 0, none⟩ (.int .u64 (tn ((fromP x0.B.lo x0.B.hi).lo)))).setCell ⟨k2, 1, none⟩ (.int .u64 (tn ((fromP x0.B.lo x0.B.hi).hi))))) (by intro x hx; obtain ⟨u0, z0⟩ := hx.has 2 0 rfl (by simp); have q0 := hx.soft 2 0 rfl; obtain ⟨u1, z1⟩ := hx.has 2 1 rfl (by simp); have q1 := hx.soft 2 1 rfl; go_simp; (first | done | rfl)) (fun x hx => ((hx.put 2 0 (.int .u64 (tn ((fromP x0.B.lo x0.B.hi).lo))) rfl).put 2 1 (.int .u64 (tn ((fromP x0.B.lo x0.B.hi).hi))) rfl)) ?_
  refine lin_done ?_
  intro W2 hx
  replace HS := hid hx
  clear hx
  -- region 3
  go_upto_region 3 with fail
  refine lin_begin (St w [⟨w.heap.size, [some (.int .u64 (tn (x0.A.lo))), some (.int .u64 (tn (x0.A.hi))), some (.int .u64 (tn (x0.B.lo))), some (.int .u64 (tn (x0.B.hi))), some (.int .u64 (tn (x0.V))), some (.int .u64 (tn (x0.W))), some (.int .i64 (ti (x0.N)))], 60⟩, ⟨k1, [some (.int .u64 (tn ((fromP x0.A.lo x0.A.hi).lo))), some (.int .u64 (tn ((fromP x0.A.lo x0.A.hi).hi)))], 24⟩, ⟨k2, [some (.int .u64 (tn ((fromP x0.B.lo x0.B.hi).lo))), some (.int .u64 (tn ((fromP x0.B.lo x0.B.hi).hi)))], 24⟩]) rfl HS.out ?_
  refine lin_val (i := 0) (v := .agg #[.int .u64 (tn ((fromP x0.A.lo x0.A.hi).lo)), .int .u64 (tn ((fromP x0.A.lo x0.A.hi).hi))]) rfl rfl (by rfl) (by intro x hx; have f0 := hx.load 1 0 rfl rfl; have f1 := hx.load 1 1 rfl rfl; go_simp; (first | done | exact rfl)) ?_
  simp only [List.set_cons_succ, List.set_cons_zero]
  refine lin_val (i := 1) (v := .agg #[.int .u64 (tn ((fromP x0.B.lo x0.B.hi).lo)), .int .u64 (tn ((fromP x0.B.lo x0.B.hi).hi))]) rfl rfl (by rfl) (by intro x hx; have f0 := hx.load 2 0 rfl rfl; have f1 := hx.load 2 1 rfl rfl; go_simp; (first | done | exact rfl)) ?_
  simp only [List.set_cons_succ, List.set_cons_zero]
  refine lin_call (i := 2) (f := 23) (args := #[.agg #[.int .u64 (tn ((fromP x0.A.lo x0.A.hi).lo)), .int .u64 (tn ((fromP x0.A.lo x0.A.hi).hi))], .agg #[.int .u64 (tn ((fromP x0.B.lo x0.B.hi).lo)), .int .u64 (tn ((fromP x0.B.lo x0.B.hi).hi))]]) (v := .agg #[.int .u64 (tn (minU (fromP x0.A.lo x0.A.hi).lo (fromP x0.B.lo x0.B.hi).lo)), .int .u64 (tn (maxU (fromP x0.A.lo x0.A.hi).hi (fromP x0.B.lo x0.B.hi).hi))]) (st_ups _ _) rfl rfl (by rfl) (fun x hx => by kernel_rfl) (by intro x hx; exact span_Join_any (fromP x0.A.lo x0.A.hi) (fromP x0.B.lo x0.B.hi) _) ?_
  simp only [List.set_cons_succ, List.set_cons_zero]
  refine lin_new (i := 3) rfl rfl (by rfl) [.int .u64 0, .int .u64 0] 24 (fun k => .pointer (some ⟨k, 0, none⟩)) [some (.int .u64 0), some (.int .u64 0)] (lessC_eq (lessC_eq (trivial))) (by intro x hx; go_simp; (first | done | exact rfl)) (fun k3 => ?_)
  simp only [List.set_cons_succ, List.set_cons_zero]
  refine lin_store (i := 4) (St w [⟨w.heap.size, [some (.int .u64 (tn (x0.A.lo))), some (.int .u64 (tn (x0.A.hi))), some (.int .u64 (tn (x0.B.lo))), some (.int .u64 (tn (x0.B.hi))), some (.int .u64 (tn (x0.V))), some (.int .u64 (tn (x0.W))), some (.int .i64 (ti (x0.N)))], 60⟩, ⟨k1, [some (.int .u64 (tn ((fromP x0.A.lo x0.A.hi).lo))), some (.int .u64 (tn ((fromP x0.A.lo x0.A.hi).hi)))], 24⟩, ⟨k2, [some (.int .u64 (tn ((fromP x0.B.lo x0.B.hi).lo))), some (.int .u64 (tn ((fromP x0.B.lo x0.B.hi).hi)))], 24⟩, ⟨k3, [some (.int .u64 (tn (minU (fromP x0.A.lo x0.A.hi).lo (fromP x0.B.lo x0.B.hi).lo))), some (.int .u64 (tn (maxU (fromP x0.A.lo x0.A.hi).hi (fromP x0.B.lo x0.B.hi).hi)))], 24⟩]) rfl rfl (by rfl) (fun x => ((x.setCell ⟨k3, 0, none⟩ (.int .u64 (tn (minU (fromP x0.A.lo x0.A.hi).lo (fromP x0.B.lo x0.B.hi).lo)))).setCell ⟨k3, 1, none⟩ (.int .u64 (tn (maxU (fromP x0.A.lo x0.A.hi).hi (fromP x0.B.lo x0.B.hi).hi))))) (by intro x hx; obtain ⟨u0, z0⟩ := hx.has 3 0 rfl (by simp); have q0 := hx.soft 3 0 rfl; obtain ⟨u1, z1⟩ := hx.has 3 1 rfl (by simp); have q1 := hx.soft 3 1 rfl; go_simp; (first | done | rfl)) (fun x hx => ((hx.put 3 0 (.int .u64 (tn (minU (fromP x0.A.lo x0.A.hi).lo (fromP x0.B.lo x0.B.hi).lo))) rfl).put 3 1 (.int .u64 (tn (maxU (fromP x0.A.lo x0.A.hi).hi (fromP x0.B.lo x0.B.hi).hi))) rfl)) ?_
  refine lin_done ?_
  intro W3 hx
  replace HS := hid hx
  clear hx
  -- region 4
  go_upto_region 4 with fail
  refine lin_begin (St w [⟨w.heap.size, [some (.int .u64 (tn (x0.A.lo))), some (.int .u64 (tn (x0.A.hi))), some (.int .u64 (tn (x0.B.lo))), some (.int .u64 (tn (x0.B.hi))), some (.int .u64 (tn (x0.V))), some (.int .u64 (tn (x0.W))), some (.int .i64 (ti (x0.N)))], 60⟩, ⟨k1, [some (.int .u64 (tn ((fromP x0.A.lo x0.A.hi).lo))), some (.int .u64 (tn ((fromP x0.A.lo x0.A.hi).hi)))], 24⟩, ⟨k2, [some (.int .u64 (tn ((fromP x0.B.lo x0.B.hi).lo))), some (.int .u64 (tn ((fromP x0.B.lo x0.B.hi).hi)))], 24⟩, ⟨k3, [some (.int .u64 (tn (minU (fromP x0.A.lo x0.A.hi).lo (fromP x0.B.lo x0.B.hi).lo))), some (.int .u64 (tn (maxU (fromP x0.A.lo x0.A.hi).hi (fromP x0.B.lo x0.B.hi).hi)))], 24⟩]) rfl HS.out ?_
  refine lin_val (i := 0) (v := .agg #[.int .u64 (tn ((fromP x0.A.lo x0.A.hi).lo)), .int .u64 (tn ((fromP x0.A.lo x0.A.hi).hi))]) rfl rfl (by rfl) (by intro x hx; have f0 := hx.load 1 0 rfl rfl; have f1 := hx.load 1 1 rfl rfl; go_simp; (first | done | exact rfl)) ?_
  simp only [List.set_cons_succ, List.set_cons_zero]
  refine lin_call (i := 1) (f := 70) (args := #[.agg #[.int .u64 (tn ((fromP x0.A.lo x0.A.hi).lo)), .int .u64 (tn ((fromP x0.A.lo x0.A.hi).hi))]]) (v := .agg #[.int .u64 (tn ((fromP x0.A.lo x0.A.hi).lo &&& ~~~(onesV ((fromP x0.A.lo x0.A.hi).lo ^^^ (fromP x0.A.lo x0.A.hi).hi)))), .int .u64 (tn (onesV ((fromP x0.A.lo x0.A.hi).lo ^^^ (fromP x0.A.lo x0.A.hi).hi)))]) (st_ups _ _) rfl rfl (by rfl) (fun x hx => by kernel_rfl) (by intro x hx; exact span_Bits_any (fromP x0.A.lo x0.A.hi) _) ?_
  simp only [List.set_cons_succ, List.set_cons_zero]
  refine lin_new (i := 2) rfl rfl (by rfl) [.int .u64 0, .int .u64 0] 51 (fun k => .pointer (some ⟨k, 0, none⟩)) [some (.int .u64 0), some (.int .u64 0)] (lessC_eq (lessC_eq (trivial))) (by intro x hx; go_simp; (first | done | exact rfl)) (fun k4 => ?_)
  simp only [List.set_cons_succ, List.set_cons_zero]
  refine lin_store (i := 3) (St w [⟨w.heap.size, [some (.int .u64 (tn (x0.A.lo))), some (.int .u64 (tn (x0.A.hi))), some (.int .u64 (tn (x0.B.lo))), some (.int .u64 (tn (x0.B.hi))), some (.int .u64 (tn (x0.V))), some (.int .u64 (tn (x0.W))), some (.int .i64 (ti (x0.N)))], 60⟩, ⟨k1, [some (.int .u64 (tn ((fromP x0.A.lo x0.A.hi).lo))), some (.int .u64 (tn ((fromP x0.A.lo x0.A.hi).hi)))], 24⟩, ⟨k2, [some (.int .u64 (tn ((fromP x0.B.lo x0.B.hi).lo))), some (.int .u64 (tn ((fromP x0.B.lo x0.B.hi).hi)))], 24⟩, ⟨k3, [some (.int .u64 (tn (minU (fromP x0.A.lo x0.A.hi).lo (fromP x0.B.lo x0.B.hi).lo))), some (.int .u64 (tn (maxU (fromP x0.A.lo x0.A.hi).hi (fromP x0.B.lo x0.B.hi).hi)))], 24⟩, ⟨k4, [some (.int .u64 (tn ((fromP x0.A.lo x0.A.hi).lo &&& ~~~(onesV ((fromP x0.A.lo x0.A.hi).lo ^^^ (fromP x0.A.lo x0.A.hi).hi))))), some (.int .u64 (tn (onesV ((fromP x0.A.lo x0.A.hi).lo ^^^ (fromP x0.A.lo x0.A.hi).hi))))], 51⟩]) rfl rfl (by rfl) (fun x => ((x.setCell ⟨k4, 0, none⟩ (.int .u64 (tn ((fromP x0.A.lo x0.A.hi).lo &&& ~~~(onesV ((fromP x0.A.lo x0.A.hi).lo ^^^ (fromP x0.A.lo x0.A.hi).hi)))))).setCell ⟨k4, 1, none⟩ (.int .u64 (tn (onesV ((fromP x0.A.lo x0.A.hi).lo ^^^ (fromP x0.A.lo x0.A.hi).hi)))))) (by intro x hx; obtain ⟨u0, z0⟩ := hx.has 4 0 rfl (by simp); have q0 := hx.soft 4 0 rfl; obtain ⟨u1, z1⟩ := hx.has 4 1 rfl (by simp); have q1 := hx.soft 4 1 rfl; go_simp; (first | done | rfl)) (fun x hx => ((hx.put 4 0 (.int .u64 (tn ((fromP x0.A.lo x0.A.hi).lo &&& ~~~(onesV ((fromP x0.A.lo x0.A.hi).lo ^^^ (fromP x0.A.lo x0.A.hi).hi))))) rfl).put 4 1 (.int .u64 (tn (onesV ((fromP x0.A.lo x0.A.hi).lo ^^^ (fromP x0.A.lo x0.A.hi).hi)))) rfl)) ?_
  refine lin_done ?_
  intro W4 hx
  replace HS := hid hx
  clear hx
  -- region 5
  go_upto_region 5 with fail
  refine lin_begin (St w [⟨w.heap.size, [some (.int .u64 (tn (x0.A.lo))), some (.int .u64 (tn (x0.A.hi))), some (.int .u64 (tn (x0.B.lo))), some (.int .u64 (tn (x0.B.hi))), some (.int .u64 (tn (x0.V))), some (.int .u64 (tn (x0.W))), some (.int .i64 (ti (x0.N)))], 60⟩, ⟨k1, [some (.int .u64 (tn ((fromP x0.A.lo x0.A.hi).lo))), some (.int .u64 (tn ((fromP x0.A.lo x0.A.hi).hi)))], 24⟩, ⟨k2, [some (.int .u64 (tn ((fromP x0.B.lo x0.B.hi).lo))), some (.int .u64 (tn ((fromP x0.B.lo x0.B.hi).hi)))], 24⟩, ⟨k3, [some (.int .u64 (tn (minU (fromP x0.A.lo x0.A.hi).lo (fromP x0.B.lo x0.B.hi).lo))), some (.int .u64 (tn (maxU (fromP x0.A.lo x0.A.hi).hi (fromP x0.B.lo x0.B.hi).hi)))], 24⟩, ⟨k4, [some (.int .u64 (tn ((fromP x0.A.lo x0.A.hi).lo &&& ~~~(onesV ((fromP x0.A.lo x0.A.hi).lo ^^^ (fromP x0.A.lo x0.A.hi).hi))))), some (.int .u64 (tn (onesV ((fromP x0.A.lo x0.A.hi).lo ^^^ (fromP x0.A.lo x0.A.hi).hi))))], 51⟩]) rfl HS.out ?_
  refine lin_val (i := 0) (v := .pointer (some ⟨w.heap.size, 4, none⟩)) rfl rfl (by rfl) (by intro x hx; go_simp; (first | done | exact rfl)) ?_
  simp only [List.set_cons_succ, List.set_cons_zero]
  refine lin_val (i := 1) (v := .int .u64 (tn (x0.V))) rfl rfl (by rfl) (by intro x hx; have f0 := hx.load 0 4 rfl rfl; go_simp; (first | done | exact rfl)) ?_
  simp only [List.set_cons_succ, List.set_cons_zero]
  refine lin_val (i := 2) (v := .int .u64 (tn (x1))) rfl rfl (by rfl) (by intro x hx; go_simp; (first | done | exact rfl)) ?_
  simp only [List.set_cons_succ, List.set_cons_zero]
  refine lin_val (i := 3) (v := .int .u64 (tn (x0.V &&& ~~~x1))) rfl rfl (by rfl) (by intro x hx; go_simp; (first | done | exact andNotUT x0.V x1 | exact congrArg _ (andNotUT x0.V x1) | (rw [andNotUT x0.V x1]; done) | (rw [andNotUT x0.V x1]; rfl))) ?_
  simp only [List.set_cons_succ, List.set_cons_zero]
  refine lin_val (i := 4) (v := .int .u64 (tn (x1))) rfl rfl (by rfl) (by intro x hx; go_simp; (first | done | exact rfl)) ?_
  simp only [List.set_cons_succ, List.set_cons_zero]
  refine lin_val (i := 5) (v := .agg #[.int .u64 (tn (x0.V &&& ~~~x1)), .int .u64 (tn (x1))]) rfl rfl (by rfl) (by intro x hx; go_simp; (first | done | exact rfl)) ?_
  simp only [List.set_cons_succ, List.set_cons_zero]
  refine lin_new (i := 6) rfl rfl (by rfl) [.int .u64 0, .int .u64 0] 51 (fun k => .pointer (some ⟨k, 0, none⟩)) [some (.int .u64 0), some (.int .u64 0)] (lessC_eq (lessC_eq (trivial))) (by intro x hx; go_simp; (first | done | exact rfl)) (fun k5 => ?_)
  simp only [List.set_cons_succ, List.set_cons_zero]
  refine lin_store (i := 7) (St w [⟨w.heap.size, [some (.int .u64 (tn (x0.A.lo))), some (.int .u64 (tn (x0.A.hi))), some (.int .u64 (tn (x0.B.lo))), some (.int .u64 (tn (x0.B.hi))), some (.int .u64 (tn (x0.V))), some (.int .u64 (tn (x0.W))), some (.int .i64 (ti (x0.N)))], 60⟩, ⟨k1, [some (.int .u64 (tn ((fromP x0.A.lo x0.A.hi).lo))), some (.int .u64 (tn ((fromP x0.A.lo x0.A.hi).hi)))], 24⟩, ⟨k2, [some (.int .u64 (tn ((fromP x0.B.lo x0.B.hi).lo))), some (.int .u64 (tn ((fromP x0.B.lo x0.B.hi).hi)))], 24⟩, ⟨k3, [some (.int .u64 (tn (minU (fromP x0.A.lo x0.A.hi).lo (fromP x0.B.lo x0.B.hi).lo))), some (.int .u64 (tn (maxU (fromP x0.A.lo x0.A.hi).hi (fromP x0.B.lo x0.B.hi).hi)))], 24⟩, ⟨k4, [some (.int .u64 (tn ((fromP x0.A.lo x0.A.hi).lo &&& ~~~(onesV ((fromP x0.A.lo x0.A.hi).lo ^^^ (fromP x0.A.lo x0.A.hi).hi))))), some (.int .u64 (tn (onesV ((fromP x0.A.lo x0.A.hi).lo ^^^ (fromP x0.A.lo x0.A.hi).hi))))], 51⟩, ⟨k5, [some (.int .u64 (tn (x0.V &&& ~~~x1))), some (.int .u64 (tn (x1)))], 51⟩]) rfl rfl (by rfl) (fun x => ((x.setCell ⟨k5, 0, none⟩ (.int .u64 (tn (x0.V &&& ~~~x1)))).setCell ⟨k5, 1, none⟩ (.int .u64 (tn (x1))))) (by intro x hx; obtain ⟨u0, z0⟩ := hx.has 5 0 rfl (by simp); have q0 := hx.soft 5 0 rfl; obtain ⟨u1, z1⟩ := hx.has 5 1 rfl (by simp); have q1 := hx.soft 5 1 rfl; go_simp; (first | done | rfl)) (fun x hx => ((hx.put 5 0 (.int .u64 (tn (x0.V &&& ~~~x1))) rfl).put 5 1 (.int .u64 (tn (x1))) rfl)) ?_
  refine lin_done ?_
  intro W5 hx
  replace HS := hid hx
  clear hx
  -- region 6
  go_upto_region 6 with fail
  refine lin_begin (St w [⟨w.heap.size, [some (.int .u64 (tn (x0.A.lo))), some (.int .u64 (tn (x0.A.hi))), some (.int .u64 (tn (x0.B.lo))), some (.int .u64 (tn (x0.B.hi))), some (.int .u64 (tn (x0.V))), some (.int .u64 (tn (x0.W))), some (.int .i64 (ti (x0.N)))], 60⟩, ⟨k1, [some (.int .u64 (tn ((fromP x0.A.lo x0.A.hi).lo))), some (.int .u64 (tn ((fromP x0.A.lo x0.A.hi).hi)))], 24⟩, ⟨k2, [some (.int .u64 (tn ((fromP x0.B.lo x0.B.hi).lo))), some (.int .u64 (tn ((fromP x0.B.lo x0.B.hi).hi)))], 24⟩, ⟨k3, [some (.int .u64 (tn (minU (fromP x0.A.lo x0.A.hi).lo (fromP x0.B.lo x0.B.hi).lo))), some (.int .u64 (tn (maxU (fromP x0.A.lo x0.A.hi).hi (fromP x0.B.lo x0.B.hi).hi)))], 24⟩, ⟨k4, [some (.int .u64 (tn ((fromP x0.A.lo x0.A.hi).lo &&& ~~~(onesV ((fromP x0.A.lo x0.A.hi).lo ^^^ (fromP x0.A.lo x0.A.hi).hi))))), some (.int .u64 (tn (onesV ((fromP x0.A.lo x0.A.hi).lo ^^^ (fromP x0.A.lo x0.A.hi).hi))))], 51⟩, ⟨k5, [some (.int .u64 (tn (x0.V &&& ~~~x1))), some (.int .u64 (tn (x1)))], 51⟩]) rfl HS.out ?_
  refine lin_val (i := 0) (v := .agg #[.int .u64 (tn (x0.V &&& ~~~x1)), .int .u64 (tn (x1))]) rfl rfl (by rfl) (by intro x hx; have f0 := hx.load 5 0 rfl rfl; have f1 := hx.load 5 1 rfl rfl; go_simp; (first | done | exact rfl)) ?_
  simp only [List.set_cons_succ, List.set_cons_zero]
  refine lin_call (i := 1) (f := 75) (args := #[.agg #[.int .u64 (tn (x0.V &&& ~~~x1)), .int .u64 (tn (x1))]]) (v := .agg #[.int .u64 (tn ((P.mk (x0.V &&& ~~~x1) x1).lo)), .int .u64 (tn ((P.mk (x0.V &&& ~~~x1) x1).lo ||| (P.mk (x0.V &&& ~~~x1) x1).hi))]) (st_ups _ _) rfl rfl (by rfl) (fun x hx => by kernel_rfl) (by intro x hx; exact span_Bounds_any (P.mk (x0.V &&& ~~~x1) x1) _) ?_
  simp only [List.set_cons_succ, List.set_cons_zero]
  refine lin_new (i := 2) rfl rfl (by rfl) [.int .u64 0, .int .u64 0] 24 (fun k => .pointer (some ⟨k, 0, none⟩)) [some (.int .u64 0), some (.int .u64 0)] (lessC_eq (lessC_eq (trivial))) (by intro x hx; go_simp; (first | done | exact rfl)) (fun k6 => ?_)
  simp only [List.set_cons_succ, List.set_cons_zero]
  refine lin_store (i := 3) (St w [⟨w.heap.size, [some (.int .u64 (tn (x0.A.lo))), some (.int .u64 (tn (x0.A.hi))), some (.int .u64 (tn (x0.B.lo))), some (.int .u64 (tn (x0.B.hi))), some (.int .u64 (tn (x0.V))), some (.int .u64 (tn (x0.W))), some (.int .i64 (ti (x0.N)))], 60⟩, ⟨k1, [some (.int .u64 (tn ((fromP x0.A.lo x0.A.hi).lo))), some (.int .u64 (tn ((fromP x0.A.lo x0.A.hi).hi)))], 24⟩, ⟨k2, [some (.int .u64 (tn ((fromP x0.B.lo x0.B.hi).lo))), some (.int .u64 (tn ((fromP x0.B.lo x0.B.hi).hi)))], 24⟩, ⟨k3, [some (.int .u64 (tn (minU (fromP x0.A.lo x0.A.hi).lo (fromP x0.B.lo x0.B.hi).lo))), some (.int .u64 (tn (maxU (fromP x0.A.lo x0.A.hi).hi (fromP x0.B.lo x0.B.hi).hi)))], 24⟩, ⟨k4, [some (.int .u64 (tn ((fromP x0.A.lo x0.A.hi).lo &&& ~~~(onesV ((fromP x0.A.lo x0.A.hi).lo ^^^ (fromP x0.A.lo x0.A.hi).hi))))), some (.int .u64 (tn (onesV ((fromP x0.A.lo x0.A.hi).lo ^^^ (fromP x0.A.lo x0.A.hi).hi))))], 51⟩, ⟨k5, [some (.int .u64 (tn (x0.V &&& ~~~x1))), some (.int .u64 (tn (x1)))], 51⟩, ⟨k6, [some (.int .u64 (tn ((P.mk (x0.V &&& ~~~x1) x1).lo))), some (.int .u64 (tn ((P.mk (x0.V &&& ~~~x1) x1).lo ||| (P.mk (x0.V &&& ~~~x1) x1).hi)))], 24⟩]) rfl rfl (by rfl) (fun x => ((x.setCell ⟨k6, 0, none⟩ (.int .u64 (tn ((P.mk (x0.V &&& ~~~x1) x1).lo)))).setCell ⟨k6, 1, none⟩ (.int .u64 (tn ((P.mk (x0.V &&& ~~~x1) x1).lo ||| (P.mk (x0.V &&& ~~~x1) x1).hi))))) (by intro x hx; obtain ⟨u0, z0⟩ := hx.has 6 0 rfl (by simp); have q0 := hx.soft 6 0 rfl; obtain ⟨u1, z1⟩ := hx.has 6 1 rfl (by simp); have q1 := hx.soft 6 1 rfl; go_simp; (first | done | rfl)) (fun x hx => ((hx.put 6 0 (.int .u64 (tn ((P.mk (x0.V &&& ~~~x1) x1).lo))) rfl).put 6 1 (.int .u64 (tn ((P.mk (x0.V &&& ~~~x1) x1).lo ||| (P.mk (x0.V &&& ~~~x1) x1).hi))) rfl)) ?_
  refine lin_done ?_
  intro W6 hx
  replace HS := hid hx
  clear hx
  -- region 7
  go_upto_region 7 with fail
  refine lin_begin (St w [⟨w.heap.size, [some (.int .u64 (tn (x0.A.lo))), some (.int .u64 (tn (x0.A.hi))), some (.int .u64 (tn (x0.B.lo))), some (.int .u64 (tn (x0.B.hi))), some (.int .u64 (tn (x0.V))), some (.int .u64 (tn (x0.W))), some (.int .i64 (ti (x0.N)))], 60⟩, ⟨k1, [some (.int .u64 (tn ((fromP x0.A.lo x0.A.hi).lo))), some (.int .u64 (tn ((fromP x0.A.lo x0.A.hi).hi)))], 24⟩, ⟨k2, [some (.int .u64 (tn ((fromP x0.B.lo x0.B.hi).lo))), some (.int .u64 (tn ((fromP x0.B.lo x0.B.hi).hi)))], 24⟩, ⟨k3, [some (.int .u64 (tn (minU (fromP x0.A.lo x0.A.hi).lo (fromP x0.B.lo x0.B.hi).lo))), some (.int .u64 (tn (maxU (fromP x0.A.lo x0.A.hi).hi (fromP x0.B.lo x0.B.hi).hi)))], 24⟩, ⟨k4, [some (.int .u64 (tn ((fromP x0.A.lo x0.A.hi).lo &&& ~~~(onesV ((fromP x0.A.lo x0.A.hi).lo ^^^ (fromP x0.A.lo x0.A.hi).hi))))), some (.int .u64 (tn (onesV ((fromP x0.A.lo x0.A.hi).lo ^^^ (fromP x0.A.lo x0.A.hi).hi))))], 51⟩, ⟨k5, [some (.int .u64 (tn (x0.V &&& ~~~x1))), some (.int .u64 (tn (x1)))], 51⟩, ⟨k6, [some (.int .u64 (tn ((P.mk (x0.V &&& ~~~x1) x1).lo))), some (.int .u64 (tn ((P.mk (x0.V &&& ~~~x1) x1).lo ||| (P.mk (x0.V &&& ~~~x1) x1).hi)))], 24⟩]) rfl HS.out ?_
  refine lin_val (i := 0) (v := .agg #[.int .u64 (tn (x0.V &&& ~~~x1)), .int .u64 (tn (x1))]) rfl rfl (by rfl) (by intro x hx; have f0 := hx.load 5 0 rfl rfl; have f1 := hx.load 5 1 rfl rfl; go_simp; (first | done | exact rfl)) ?_
  simp only [List.set_cons_succ, List.set_cons_zero]
  refine lin_call (i := 1) (f := 77) (args := #[.agg #[.int .u64 (tn (x0.V &&& ~~~x1)), .int .u64 (tn (x1))]]) (v := .agg #[.int .i64 (ti ((span_Sbounds (P.mk (x0.V &&& ~~~x1) x1)).lo)), .int .i64 (ti ((span_Sbounds (P.mk (x0.V &&& ~~~x1) x1)).hi))]) (st_ups _ _) rfl rfl (by rfl) (fun x hx => by kernel_rfl) (by intro x hx; exact span_Sbounds_any (P.mk (x0.V &&& ~~~x1) x1) _) ?_
  simp only [List.set_cons_succ, List.set_cons_zero]
  refine lin_new (i := 2) rfl rfl (by rfl) [.int .i64 0, .int .i64 0] 38 (fun k => .pointer (some ⟨k, 0, none⟩)) [some (.int .i64 0), some (.int .i64 0)] (lessC_eq (lessC_eq (trivial))) (by intro x hx; go_simp; (first | done | exact rfl)) (fun k7 => ?_)
  simp only [List.set_cons_succ, List.set_cons_zero]
  refine lin_store (i := 3) (St w [⟨w.heap.size, [some (.int .u64 (tn (x0.A.lo))), some (.int .u64 (tn (x0.A.hi))), some (.int .u64 (tn (x0.B.lo))), some (.int .u64 (tn (x0.B.hi))), some (.int .u64 (tn (x0.V))), some (.int .u64 (tn (x0.W))), some (.int .i64 (ti (x0.N)))], 60⟩, ⟨k1, [some (.int .u64 (tn ((fromP x0.A.lo x0.A.hi).lo))), some (.int .u64 (tn ((fromP x0.A.lo x0.A.hi).hi)))], 24⟩, ⟨k2, [some (.int .u64 (tn ((fromP x0.B.lo x0.B.hi).lo))), some (.int .u64 (tn ((fromP x0.B.lo x0.B.hi).hi)))], 24⟩, ⟨k3, [some (.int .u64 (tn (minU (fromP x0.A.lo x0.A.hi).lo (fromP x0.B.lo x0.B.hi).lo))), some (.int .u64 (tn (maxU (fromP x0.A.lo x0.A.hi).hi (fromP x0.B.lo x0.B.hi).hi)))], 24⟩, ⟨k4, [some (.int .u64 (tn ((fromP x0.A.lo x0.A.hi).lo &&& ~~~(onesV ((fromP x0.A.lo x0.A.hi).lo ^^^ (fromP x0.A.lo x0.A.hi).hi))))), some (.int .u64 (tn (onesV ((fromP x0.A.lo x0.A.hi).lo ^^^ (fromP x0.A.lo x0.A.hi).hi))))], 51⟩, ⟨k5, [some (.int .u64 (tn (x0.V &&& ~~~x1))), some (.int .u64 (tn (x1)))], 51⟩, ⟨k6, [some (.int .u64 (tn ((P.mk (x0.V &&& ~~~x1) x1).lo))), some (.int .u64 (tn ((P.mk (x0.V &&& ~~~x1) x1).lo ||| (P.mk (x0.V &&& ~~~x1) x1).hi)))], 24⟩, ⟨k7, [some (.int .i64 (ti ((span_Sbounds (P.mk (x0.V &&& ~~~x1) x1)).lo))), some (.int .i64 (ti ((span_Sbounds (P.mk (x0.V &&& ~~~x1) x1)).hi)))], 38⟩]) rfl rfl (by rfl) (fun x => ((x.setCell ⟨k7, 0, none⟩ (.int .i64 (ti ((span_Sbounds (P.mk (x0.V &&& ~~~x1) x1)).lo)))).setCell ⟨k7, 1, none⟩ (.int .i64 (ti ((span_Sbounds (P.mk (x0.V &&& ~~~x1) x1)).hi))))) (by intro x hx; obtain ⟨u0, z0⟩ := hx.has 7 0 rfl (by simp); have q0 := hx.soft 7 0 rfl; obtain ⟨u1, z1⟩ := hx.has 7 1 rfl (by simp); have q1 := hx.soft 7 1 rfl; go_simp; (first | done | rfl)) (fun x hx => ((hx.put 7 0 (.int .i64 (ti ((span_Sbounds (P.mk (x0.V &&& ~~~x1) x1)).lo))) rfl).put 7 1 (.int .i64 (ti ((span_Sbounds (P.mk (x0.V &&& ~~~x1) x1)).hi))) rfl)) ?_
  refine lin_done ?_
  intro W7 hx
  replace HS := hid hx
  clear hx
  -- region 8
  go_upto_region 8 with fail
  refine lin_begin (St w [⟨w.heap.size, [some (.int .u64 (tn (x0.A.lo))), some (.int .u64 (tn (x0.A.hi))), some (.int .u64 (tn (x0.B.lo))), some (.int .u64 (tn (x0.B.hi))), some (.int .u64 (tn (x0.V))), some (.int .u64 (tn (x0.W))), some (.int .i64 (ti (x0.N)))], 60⟩, ⟨k1, [some (.int .u64 (tn ((fromP x0.A.lo x0.A.hi).lo))), some (.int .u64 (tn ((fromP x0.A.lo x0.A.hi).hi)))], 24⟩, ⟨k2, [some (.int .u64 (tn ((fromP x0.B.lo x0.B.hi).lo))), some (.int .u64 (tn ((fromP x0.B.lo x0.B.hi).hi)))], 24⟩, ⟨k3, [some (.int .u64 (tn (minU (fromP x0.A.lo x0.A.hi).lo (fromP x0.B.lo x0.B.hi).lo))), some (.int .u64 (tn (maxU (fromP x0.A.lo x0.A.hi).hi (fromP x0.B.lo x0.B.hi).hi)))], 24⟩, ⟨k4, [some (.int .u64 (tn ((fromP x0.A.lo x0.A.hi).lo &&& ~~~(onesV ((fromP x0.A.lo x0.A.hi).lo ^^^ (fromP x0.A.lo x0.A.hi).hi))))), some (.int .u64 (tn (onesV ((fromP x0.A.lo x0.A.hi).lo ^^^ (fromP x0.A.lo x0.A.hi).hi))))], 51⟩, ⟨k5, [some (.int .u64 (tn (x0.V &&& ~~~x1))), some (.int .u64 (tn (x1)))], 51⟩, ⟨k6, [some (.int .u64 (tn ((P.mk (x0.V &&& ~~~x1) x1).lo))), some (.int .u64 (tn ((P.mk (x0.V &&& ~~~x1) x1).lo ||| (P.mk (x0.V &&& ~~~x1) x1).hi)))], 24⟩, ⟨k7, [some (.int .i64 (ti ((span_Sbounds (P.mk (x0.V &&& ~~~x1) x1)).lo))), some (.int .i64 (ti ((span_Sbounds (P.mk (x0.V &&& ~~~x1) x1)).hi)))], 38⟩]) rfl HS.out ?_
  refine lin_val (i := 0) (v := .pointer (some ⟨k6, 0, none⟩)) rfl rfl (by rfl) (by intro x hx; go_simp; (first | done | exact rfl)) ?_
  simp only [List.set_cons_succ, List.set_cons_zero]
  refine lin_val (i := 1) (v := .int .u64 (tn ((P.mk (x0.V &&& ~~~x1) x1).lo))) rfl rfl (by rfl) (by intro x hx; have f0 := hx.load 6 0 rfl rfl; go_simp; (first | done | exact rfl)) ?_
  simp only [List.set_cons_succ, List.set_cons_zero]
  refine lin_val (i := 2) (v := .pointer (some ⟨k6, 1, none⟩)) rfl rfl (by rfl) (by intro x hx; go_simp; (first | done | exact rfl)) ?_
  simp only [List.set_cons_succ, List.set_cons_zero]
  refine lin_val (i := 3) (v := .int .u64 (tn ((P.mk (x0.V &&& ~~~x1) x1).lo ||| (P.mk (x0.V &&& ~~~x1) x1).hi))) rfl rfl (by rfl) (by intro x hx; have f0 := hx.load 6 1 rfl rfl; go_simp; (first | done | exact rfl)) ?_
  simp only [List.set_cons_succ, List.set_cons_zero]
  refine lin_val (i := 4) (v := .pointer (some ⟨k7, 0, none⟩)) rfl rfl (by rfl) (by intro x hx; go_simp; (first | done | exact rfl)) ?_
  simp only [List.set_cons_succ, List.set_cons_zero]
  refine lin_val (i := 5) (v := .int .i64 (ti ((span_Sbounds (P.mk (x0.V &&& ~~~x1) x1)).lo))) rfl rfl (by rfl) (by intro x hx; have f0 := hx.load 7 0 rfl rfl; go_simp; (first | done | exact rfl)) ?_
  simp only [List.set_cons_succ, List.set_cons_zero]
  refine lin_val (i := 6) (v := .int .u64 (tn ((span_Sbounds (P.mk (x0.V &&& ~~~x1) x1)).lo))) rfl rfl (by rfl) (by intro x hx; go_simp; (first | done | exact backI ((span_Sbounds (P.mk (x0.V &&& ~~~x1) x1)).lo) | exact congrArg _ (backI ((span_Sbounds (P.mk (x0.V &&& ~~~x1) x1)).lo)) | (rw [backI ((span_Sbounds (P.mk (x0.V &&& ~~~x1) x1)).lo)]; done) | (rw [backI ((span_Sbounds (P.mk (x0.V &&& ~~~x1) x1)).lo)]; rfl))) ?_
  simp only [List.set_cons_succ, List.set_cons_zero]
  refine lin_val (i := 7) (v := .pointer (some ⟨k7, 1, none⟩)) rfl rfl (by rfl) (by intro x hx; go_simp; (first | done | exact rfl)) ?_
  simp only [List.set_cons_succ, List.set_cons_zero]
  refine lin_val (i := 8) (v := .int .i64 (ti ((span_Sbounds (P.mk (x0.V &&& ~~~x1) x1)).hi))) rfl rfl (by rfl) (by intro x hx; have f0 := hx.load 7 1 rfl rfl; go_simp; (first | done | exact rfl)) ?_
  simp only [List.set_cons_succ, List.set_cons_zero]
  refine lin_val (i := 9) (v := .int .u64 (tn ((span_Sbounds (P.mk (x0.V &&& ~~~x1) x1)).hi))) rfl rfl (by rfl) (by intro x hx; go_simp; (first | done | exact backI ((span_Sbounds (P.mk (x0.V &&& ~~~x1) x1)).hi) | exact congrArg _ (backI ((span_Sbounds (P.mk (x0.V &&& ~~~x1) x1)).hi)) | (rw [backI ((span_Sbounds (P.mk (x0.V &&& ~~~x1) x1)).hi)]; done) | (rw [backI ((span_Sbounds (P.mk (x0.V &&& ~~~x1) x1)).hi)]; rfl))) ?_
  simp only [List.set_cons_succ, List.set_cons_zero]
  refine lin_new (i := 10) rfl rfl (by rfl) [.int .u64 (tn ((P.mk (x0.V &&& ~~~x1) x1).lo)), .int .u64 (tn ((P.mk (x0.V &&& ~~~x1) x1).lo ||| (P.mk (x0.V &&& ~~~x1) x1).hi)), .int .u64 (tn ((span_Sbounds (P.mk (x0.V &&& ~~~x1) x1)).lo)), .int .u64 (tn ((span_Sbounds (P.mk (x0.V &&& ~~~x1) x1)).hi))] 22 (fun k => .slice (some ⟨k, 0, none⟩) 4 4) [some (.int .u64 (tn ((P.mk (x0.V &&& ~~~x1) x1).lo))), some (.int .u64 (tn ((P.mk (x0.V &&& ~~~x1) x1).lo ||| (P.mk (x0.V &&& ~~~x1) x1).hi))), some (.int .u64 (tn ((span_Sbounds (P.mk (x0.V &&& ~~~x1) x1)).lo))), some (.int .u64 (tn ((span_Sbounds (P.mk (x0.V &&& ~~~x1) x1)).hi)))] (lessC_eq (lessC_eq (lessC_eq (lessC_eq (trivial))))) (by intro x hx; go_simp; (first | done | exact rfl)) (fun k8 => ?_)
  simp only [List.set_cons_succ, List.set_cons_zero]
  refine lin_val (i := 11) (v := .slice (some ⟨k8, 0, none⟩) 4 4) rfl rfl (by rfl) (by intro x hx; go_simp; (first | done | exact rfl)) ?_
  simp only [List.set_cons_succ, List.set_cons_zero]
  refine lin_done ?_
  intro W8 hx
  replace HS := hid hx
  clear hx
  -- region 9
  go_upto_region 9 with fail
  refine lin_begin (St w [⟨w.heap.size, [some (.int .u64 (tn (x0.A.lo))), some (.int .u64 (tn (x0.A.hi))), some (.int .u64 (tn (x0.B.lo))), some (.int .u64 (tn (x0.B.hi))), some (.int .u64 (tn (x0.V))), some (.int .u64 (tn (x0.W))), some (.int .i64 (ti (x0.N)))], 60⟩, ⟨k1, [some (.int .u64 (tn ((fromP x0.A.lo x0.A.hi).lo))), some (.int .u64 (tn ((fromP x0.A.lo x0.A.hi).hi)))], 24⟩, ⟨k2, [some (.int .u64 (tn ((fromP x0.B.lo x0.B.hi).lo))), some (.int .u64 (tn ((fromP x0.B.lo x0.B.hi).hi)))], 24⟩, ⟨k3, [some (.int .u64 (tn (minU (fromP x0.A.lo x0.A.hi).lo (fromP x0.B.lo x0.B.hi).lo))), some (.int .u64 (tn (maxU (fromP x0.A.lo x0.A.hi).hi (fromP x0.B.lo x0.B.hi).hi)))], 24⟩, ⟨k4, [some (.int .u64 (tn ((fromP x0.A.lo x0.A.hi).lo &&& ~~~(onesV ((fromP x0.A.lo x0.A.hi).lo ^^^ (fromP x0.A.lo x0.A.hi).hi))))), some (.int .u64 (tn (onesV ((fromP x0.A.lo x0.A.hi).lo ^^^ (fromP x0.A.lo x0.A.hi).hi))))], 51⟩, ⟨k5, [some (.int .u64 (tn (x0.V &&& ~~~x1))), some (.int .u64 (tn (x1)))], 51⟩, ⟨k6, [some (.int .u64 (tn ((P.mk (x0.V &&& ~~~x1) x1).lo))), some (.int .u64 (tn ((P.mk (x0.V &&& ~~~x1) x1).lo ||| (P.mk (x0.V &&& ~~~x1) x1).hi)))], 24⟩, ⟨k7, [some (.int .i64 (ti ((span_Sbounds (P.mk (x0.V &&& ~~~x1) x1)).lo))), some (.int .i64 (ti ((span_Sbounds (P.mk (x0.V &&& ~~~x1) x1)).hi)))], 38⟩, ⟨k8, [some (.int .u64 (tn ((P.mk (x0.V &&& ~~~x1) x1).lo))), some (.int .u64 (tn ((P.mk (x0.V &&& ~~~x1) x1).lo ||| (P.mk (x0.V &&& ~~~x1) x1).hi))), some (.int .u64 (tn ((span_Sbounds (P.mk (x0.V &&& ~~~x1) x1)).lo))), some (.int .u64 (tn ((span_Sbounds (P.mk (x0.V &&& ~~~x1) x1)).hi)))], 22⟩]) rfl HS.out ?_
  refine lin_val (i := 0) (v := .int .i64 0) rfl rfl (by rfl) (by intro x hx; go_simp; (first | done | exact rfl)) ?_
  simp only [List.set_cons_succ, List.set_cons_zero]
  refine lin_done ?_
  intro W9 hx
  replace HS := hid hx
  clear hx
  go_wp2
  refine wp_loop_rounds 70 ?_
  rw [rounds_succ]
  -- region 10
  go_upto_region 10 with fail
  refine lin_begin (St w [⟨w.heap.size, [some (.int .u64 (tn (x0.A.lo))), some (.int .u64 (tn (x0.A.hi))), some (.int .u64 (tn (x0.B.lo))), some (.int .u64 (tn (x0.B.hi))), some (.int .u64 (tn (x0.V))), some (.int .u64 (tn (x0.W))), some (.int .i64 (ti (x0.N)))], 60⟩, ⟨k1, [some (.int .u64 (tn ((fromP x0.A.lo x0.A.hi).lo))), some (.int .u64 (tn ((fromP x0.A.lo x0.A.hi).hi)))], 24⟩, ⟨k2, [some (.int .u64 (tn ((fromP x0.B.lo x0.B.hi).lo))), some (.int .u64 (tn ((fromP x0.B.lo x0.B.hi).hi)))], 24⟩, ⟨k3, [some (.int .u64 (tn (minU (fromP x0.A.lo x0.A.hi).lo (fromP x0.B.lo x0.B.hi).lo))), some (.int .u64 (tn (maxU (fromP x0.A.lo x0.A.hi).hi (fromP x0.B.lo x0.B.hi).hi)))], 24⟩, ⟨k4, [some (.int .u64 (tn ((fromP x0.A.lo x0.A.hi).lo &&& ~~~(onesV ((fromP x0.A.lo x0.A.hi).lo ^^^ (fromP x0.A.lo x0.A.hi).hi))))), some (.int .u64 (tn (onesV ((fromP x0.A.lo x0.A.hi).lo ^^^ (fromP x0.A.lo x0.A.hi).hi))))], 51⟩, ⟨k5, [some (.int .u64 (tn (x0.V &&& ~~~x1))), some (.int .u64 (tn (x1)))], 51⟩, ⟨k6, [some (.int .u64 (tn ((P.mk (x0.V &&& ~~~x1) x1).lo))), some (.int .u64 (tn ((P.mk (x0.V &&& ~~~x1) x1).lo ||| (P.mk (x0.V &&& ~~~x1) x1).hi)))], 24⟩, ⟨k7, [some (.int .i64 (ti ((span_Sbounds (P.mk (x0.V &&& ~~~x1) x1)).lo))), some (.int .i64 (ti ((span_Sbounds (P.mk (x0.V &&& ~~~x1) x1)).hi)))], 38⟩, ⟨k8, [some (.int .u64 (tn ((P.mk (x0.V &&& ~~~x1) x1).lo))), some (.int .u64 (tn ((P.mk (x0.V &&& ~~~x1) x1).lo ||| (P.mk (x0.V &&& ~~~x1) x1).hi))), some (.int .u64 (tn ((span_Sbounds (P.mk (x0.V &&& ~~~x1) x1)).lo))), some (.int .u64 (tn ((span_Sbounds (P.mk (x0.V &&& ~~~x1) x1)).hi)))], 22⟩]) rfl HS.out ?_
  refine lin_val (i := 0) (v := .int .i64 0) rfl rfl (by rfl) (by intro x hx; go_simp; (first | done | exact rfl)) ?_
  simp only [List.set_cons_succ, List.set_cons_zero]
  refine lin_val (i := 1) (v := .slice (some ⟨k8, 0, none⟩) 4 4) rfl rfl (by rfl) (by intro x hx; go_simp; (first | done | exact rfl)) ?_
  simp only [List.set_cons_succ, List.set_cons_zero]
  refine lin_val (i := 2) (v := .int .i64 4) rfl rfl (by rfl) (by intro x hx; go_simp; (first | done | exact rfl)) ?_
  simp only [List.set_cons_succ, List.set_cons_zero]
  refine lin_val (i := 3) (v := .bool true) rfl rfl (by rfl) (by intro x hx; go_simp; (first | done | exact rfl)) ?_
  simp only [List.set_cons_succ, List.set_cons_zero]
  refine lin_done ?_
  intro W10 hx
  replace HS := hid hx
  clear hx
  -- region 12
  go_upto_region 12 with fail
  refine up_begin (St w [⟨w.heap.size, [some (.int .u64 (tn (x0.A.lo))), some (.int .u64 (tn (x0.A.hi))), some (.int .u64 (tn (x0.B.lo))), some (.int .u64 (tn (x0.B.hi))), some (.int .u64 (tn (x0.V))), some (.int .u64 (tn (x0.W))), some (.int .i64 (ti (x0.N)))], 60⟩, ⟨k1, [some (.int .u64 (tn ((fromP x0.A.lo x0.A.hi).lo))), some (.int .u64 (tn ((fromP x0.A.lo x0.A.hi).hi)))], 24⟩, ⟨k2, [some (.int .u64 (tn ((fromP x0.B.lo x0.B.hi).lo))), some (.int .u64 (tn ((fromP x0.B.lo x0.B.hi).hi)))], 24⟩, ⟨k3, [some (.int .u64 (tn (minU (fromP x0.A.lo x0.A.hi).lo (fromP x0.B.lo x0.B.hi).lo))), some (.int .u64 (tn (maxU (fromP x0.A.lo x0.A.hi).hi (fromP x0.B.lo x0.B.hi).hi)))], 24⟩, ⟨k4, [some (.int .u64 (tn ((fromP x0.A.lo x0.A.hi).lo &&& ~~~(onesV ((fromP x0.A.lo x0.A.hi).lo ^^^ (fromP x0.A.lo x0.A.hi).hi))))), some (.int .u64 (tn (onesV ((fromP x0.A.lo x0.A.hi).lo ^^^ (fromP x0.A.lo x0.A.hi).hi))))], 51⟩, ⟨k5, [some (.int .u64 (tn (x0.V &&& ~~~x1))), some (.int .u64 (tn (x1)))], 51⟩, ⟨k6, [some (.int .u64 (tn ((P.mk (x0.V &&& ~~~x1) x1).lo))), some (.int .u64 (tn ((P.mk (x0.V &&& ~~~x1) x1).lo ||| (P.mk (x0.V &&& ~~~x1) x1).hi)))], 24⟩, ⟨k7, [some (.int .i64 (ti ((span_Sbounds (P.mk (x0.V &&& ~~~x1) x1)).lo))), some (.int .i64 (ti ((span_Sbounds (P.mk (x0.V &&& ~~~x1) x1)).hi)))], 38⟩, ⟨k8, [some (.int .u64 (tn ((P.mk (x0.V &&& ~~~x1) x1).lo))), some (.int .u64 (tn ((P.mk (x0.V &&& ~~~x1) x1).lo ||| (P.mk (x0.V &&& ~~~x1) x1).hi))), some (.int .u64 (tn ((span_Sbounds (P.mk (x0.V &&& ~~~x1) x1)).lo))), some (.int .u64 (tn ((span_Sbounds (P.mk (x0.V &&& ~~~x1) x1)).hi)))], 22⟩]) 9 rfl (by kernel_rfl) (HS.out.drew) ?_
  refine take_val (i := 0) (v := .slice (some ⟨k8, 0, none⟩) 4 4) (st_ups _ _) rfl rfl (by kernel_rfl) (fun _ _ _ h => h) (by rfl) (by intro x hx; go_simp; (first | done | exact rfl)) ?_
  simp only [List.set_cons_succ, List.set_cons_zero]
  refine take_val (i := 1) (v := .int .i64 0) (st_ups _ _) rfl rfl (by kernel_rfl) (fun _ _ _ h => h) (by rfl) (by intro x hx; go_simp; (first | done | exact rfl)) ?_
  simp only [List.set_cons_succ, List.set_cons_zero]
  refine take_val (i := 2) (v := .pointer (some ⟨k8, 0, none⟩)) (st_ups _ _) rfl rfl (by kernel_rfl) (fun _ _ _ h => h) (by rfl) (by intro x hx; go_simp; (first | done | exact rfl)) ?_
  simp only [List.set_cons_succ, List.set_cons_zero]
  refine take_val (i := 3) (v := .int .u64 (tn ((P.mk (x0.V &&& ~~~x1) x1).lo))) (st_ups _ _) rfl rfl (by kernel_rfl) (fun _ _ _ h => h) (by rfl) (by intro x hx; have f0 := hx.load 8 0 rfl rfl; go_simp; (first | done | exact rfl)) ?_
  simp only [List.set_cons_succ, List.set_cons_zero]
  refine take_val (i := 4) (v := .int .u64 (tn (x1))) (st_ups _ _) rfl rfl (by kernel_rfl) (fun _ _ _ h => h) (by rfl) (by intro x hx; go_simp; (first | done | exact rfl)) ?_
  simp only [List.set_cons_succ, List.set_cons_zero]
  refine take_val (i := 5) (v := .int .u64 (tn (((P.mk (x0.V &&& ~~~x1) x1).lo) &&& ~~~x1))) (st_ups _ _) rfl rfl (by kernel_rfl) (fun _ _ _ h => h) (by rfl) (by intro x hx; go_simp; (first | done | exact andNotUT ((P.mk (x0.V &&& ~~~x1) x1).lo) x1 | exact congrArg _ (andNotUT ((P.mk (x0.V &&& ~~~x1) x1).lo) x1) | (rw [andNotUT ((P.mk (x0.V &&& ~~~x1) x1).lo) x1]; done) | (rw [andNotUT ((P.mk (x0.V &&& ~~~x1) x1).lo) x1]; rfl))) ?_
  simp only [List.set_cons_succ, List.set_cons_zero]
  refine take_val (i := 6) (v := .pointer (some ⟨k5, 0, none⟩)) (st_ups _ _) rfl rfl (by kernel_rfl) (fun _ _ _ h => h) (by rfl) (by intro x hx; go_simp; (first | done | exact rfl)) ?_
  simp only [List.set_cons_succ, List.set_cons_zero]
  refine take_val (i := 7) (v := .int .u64 (tn (x0.V &&& ~~~x1))) (st_ups _ _) rfl rfl (by kernel_rfl) (fun _ _ _ h => h) (by rfl) (by intro x hx; have f0 := hx.load 5 0 rfl rfl; go_simp; (first | done | exact rfl)) ?_
  simp only [List.set_cons_succ, List.set_cons_zero]
  refine take_val (i := 8) (v := .bool false) (st_ups _ _) rfl rfl (by kernel_rfl) (fun _ _ _ h => h) (by rfl) (by intro x hx; go_simp; (first | done | (first | exact bne_of (end_0 x0.V x1) | exact eq_of_beq (bne_of (end_0 x0.V x1)) | exact congrArg _ (bne_of (end_0 x0.V x1)) | (rw [bne_of (end_0 x0.V x1)]; done) | ((first | rfl | exact neUT (((P.mk (x0.V &&& ~~~x1) x1).lo) &&& ~~~x1) (x0.V &&& ~~~x1) | exact congrArg _ (neUT (((P.mk (x0.V &&& ~~~x1) x1).lo) &&& ~~~x1) (x0.V &&& ~~~x1)) | (rw [neUT (((P.mk (x0.V &&& ~~~x1) x1).lo) &&& ~~~x1) (x0.V &&& ~~~x1)]; done) | (rw [neUT (((P.mk (x0.V &&& ~~~x1) x1).lo) &&& ~~~x1) (x0.V &&& ~~~x1)]; rfl)); rw [bne_of (end_0 x0.V x1)]) | exact congrArg tn (eq_of_beq (bne_of (end_0 x0.V x1))) | exact congrArg ti (eq_of_beq (bne_of (end_0 x0.V x1))) | exact congrArg tn (eq_of_bne (bne_of (end_0 x0.V x1))) | simpa using (bne_of (end_0 x0.V x1))))) ?_
  simp only [List.set_cons_succ, List.set_cons_zero]
  refine take_done (by kernel_rfl) ?_ _
  intro W11 hx
  replace HS := hid hx
  clear hx
  -- region 11
  go_upto_region 11 with fail
  refine lin_begin (St w [⟨w.heap.size, [some (.int .u64 (tn (x0.A.lo))), some (.int .u64 (tn (x0.A.hi))), some (.int .u64 (tn (x0.B.lo))), some (.int .u64 (tn (x0.B.hi))), some (.int .u64 (tn (x0.V))), some (.int .u64 (tn (x0.W))), some (.int .i64 (ti (x0.N)))], 60⟩, ⟨k1, [some (.int .u64 (tn ((fromP x0.A.lo x0.A.hi).lo))), some (.int .u64 (tn ((fromP x0.A.lo x0.A.hi).hi)))], 24⟩, ⟨k2, [some (.int .u64 (tn ((fromP x0.B.lo x0.B.hi).lo))), some (.int .u64 (tn ((fromP x0.B.lo x0.B.hi).hi)))], 24⟩, ⟨k3, [some (.int .u64 (tn (minU (fromP x0.A.lo x0.A.hi).lo (fromP x0.B.lo x0.B.hi).lo))), some (.int .u64 (tn (maxU (fromP x0.A.lo x0.A.hi).hi (fromP x0.B.lo x0.B.hi).hi)))], 24⟩, ⟨k4, [some (.int .u64 (tn ((fromP x0.A.lo x0.A.hi).lo &&& ~~~(onesV ((fromP x0.A.lo x0.A.hi).lo ^^^ (fromP x0.A.lo x0.A.hi).hi))))), some (.int .u64 (tn (onesV ((fromP x0.A.lo x0.A.hi).lo ^^^ (fromP x0.A.lo x0.A.hi).hi))))], 51⟩, ⟨k5, [some (.int .u64 (tn (x0.V &&& ~~~x1))), some (.int .u64 (tn (x1)))], 51⟩, ⟨k6, [some (.int .u64 (tn ((P.mk (x0.V &&& ~~~x1) x1).lo))), some (.int .u64 (tn ((P.mk (x0.V &&& ~~~x1) x1).lo ||| (P.mk (x0.V &&& ~~~x1) x1).hi)))], 24⟩, ⟨k7, [some (.int .i64 (ti ((span_Sbounds (P.mk (x0.V &&& ~~~x1) x1)).lo))), some (.int .i64 (ti ((span_Sbounds (P.mk (x0.V &&& ~~~x1) x1)).hi)))], 38⟩, ⟨k8, [some (.int .u64 (tn ((P.mk (x0.V &&& ~~~x1) x1).lo))), some (.int .u64 (tn ((P.mk (x0.V &&& ~~~x1) x1).lo ||| (P.mk (x0.V &&& ~~~x1) x1).hi))), some (.int .u64 (tn ((span_Sbounds (P.mk (x0.V &&& ~~~x1) x1)).lo))), some (.int .u64 (tn ((span_Sbounds (P.mk (x0.V &&& ~~~x1) x1)).hi)))], 22⟩]) rfl HS.out ?_
  refine lin_val (i := 0) (v := .int .i64 0) rfl rfl (by rfl) (by intro x hx; go_simp; (first | done | exact rfl)) ?_
  simp only [List.set_cons_succ, List.set_cons_zero]
  refine lin_val (i := 1) (v := .int .i64 1) rfl rfl (by rfl) (by intro x hx; go_simp; (first | done | exact rfl)) ?_
  simp only [List.set_cons_succ, List.set_cons_zero]
  refine lin_val (i := 2) (v := .int .i64 1) rfl rfl (by rfl) (by intro x hx; go_simp; (first | done | exact rfl)) ?_
  simp only [List.set_cons_succ, List.set_cons_zero]
  refine lin_done ?_
  intro W12 hx
  replace HS := hid hx
  clear hx
  go_wp2
  rw [rounds_succ]
  -- region 10
  go_upto_region 10 with fail
  refine lin_begin (St w [⟨w.heap.size, [some (.int .u64 (tn (x0.A.lo))), some (.int .u64 (tn (x0.A.hi))), some (.int .u64 (tn (x0.B.lo))), some (.int .u64 (tn (x0.B.hi))), some (.int .u64 (tn (x0.V))), some (.int .u64 (tn (x0.W))), some (.int .i64 (ti (x0.N)))], 60⟩, ⟨k1, [some (.int .u64 (tn ((fromP x0.A.lo x0.A.hi).lo))), some (.int .u64 (tn ((fromP x0.A.lo x0.A.hi).hi)))], 24⟩, ⟨k2, [some (.int .u64 (tn ((fromP x0.B.lo x0.B.hi).lo))), some (.int .u64 (tn ((fromP x0.B.lo x0.B.hi).hi)))], 24⟩, ⟨k3, [some (.int .u64 (tn (minU (fromP x0.A.lo x0.A.hi).lo (fromP x0.B.lo x0.B.hi).lo))), some (.int .u64 (tn (maxU (fromP x0.A.lo x0.A.hi).hi (fromP x0.B.lo x0.B.hi).hi)))], 24⟩, ⟨k4, [some (.int .u64 (tn ((fromP x0.A.lo x0.A.hi).lo &&& ~~~(onesV ((fromP x0.A.lo x0.A.hi).lo ^^^ (fromP x0.A.lo x0.A.hi).hi))))), some (.int .u64 (tn (onesV ((fromP x0.A.lo x0.A.hi).lo ^^^ (fromP x0.A.lo x0.A.hi).hi))))], 51⟩, ⟨k5, [some (.int .u64 (tn (x0.V &&& ~~~x1))), some (.int .u64 (tn (x1)))], 51⟩, ⟨k6, [some (.int .u64 (tn ((P.mk (x0.V &&& ~~~x1) x1).lo))), some (.int .u64 (tn ((P.mk (x0.V &&& ~~~x1) x1).lo ||| (P.mk (x0.V &&& ~~~x1) x1).hi)))], 24⟩, ⟨k7, [some (.int .i64 (ti ((span_Sbounds (P.mk (x0.V &&& ~~~x1) x1)).lo))), some (.int .i64 (ti ((span_Sbounds (P.mk (x0.V &&& ~~~x1) x1)).hi)))], 38⟩, ⟨k8, [some (.int .u64 (tn ((P.mk (x0.V &&& ~~~x1) x1).lo))), some (.int .u64 (tn ((P.mk (x0.V &&& ~~~x1) x1).lo ||| (P.mk (x0.V &&& ~~~x1) x1).hi))), some (.int .u64 (tn ((span_Sbounds (P.mk (x0.V &&& ~~~x1) x1)).lo))), some (.int .u64 (tn ((span_Sbounds (P.mk (x0.V &&& ~~~x1) x1)).hi)))], 22⟩]) rfl HS.out ?_
  refine lin_val (i := 0) (v := .int .i64 1) rfl rfl (by rfl) (by intro x hx; go_simp; (first | done | exact rfl)) ?_
  simp only [List.set_cons_succ, List.set_cons_zero]
  refine lin_val (i := 1) (v := .slice (some ⟨k8, 0, none⟩) 4 4) rfl rfl (by rfl) (by intro x hx; go_simp; (first | done | exact rfl)) ?_
  simp only [List.set_cons_succ, List.set_cons_zero]
  refine lin_val (i := 2) (v := .int .i64 4) rfl rfl (by rfl) (by intro x hx; go_simp; (first | done | exact rfl)) ?_
  simp only [List.set_cons_succ, List.set_cons_zero]
  refine lin_val (i := 3) (v := .bool true) rfl rfl (by rfl) (by intro x hx; go_simp; (first | done | exact rfl)) ?_
  simp only [List.set_cons_succ, List.set_cons_zero]
  refine lin_done ?_
  intro W13 hx
  replace HS := hid hx
  clear hx
  -- region 12
  go_upto_region 12 with fail
  refine up_begin (St w [⟨w.heap.size, [some (.int .u64 (tn (x0.A.lo))), some (.int .u64 (tn (x0.A.hi))), some (.int .u64 (tn (x0.B.lo))), some (.int .u64 (tn (x0.B.hi))), some (.int .u64 (tn (x0.V))), some (.int .u64 (tn (x0.W))), some (.int .i64 (ti (x0.N)))], 60⟩, ⟨k1, [some (.int .u64 (tn ((fromP x0.A.lo x0.A.hi).lo))), some (.int .u64 (tn ((fromP x0.A.lo x0.A.hi).hi)))], 24⟩, ⟨k2, [some (.int .u64 (tn ((fromP x0.B.lo x0.B.hi).lo))), some (.int .u64 (tn ((fromP x0.B.lo x0.B.hi).hi)))], 24⟩, ⟨k3, [some (.int .u64 (tn (minU (fromP x0.A.lo x0.A.hi).lo (fromP x0.B.lo x0.B.hi).lo))), some (.int .u64 (tn (maxU (fromP x0.A.lo x0.A.hi).hi (fromP x0.B.lo x0.B.hi).hi)))], 24⟩, ⟨k4, [some (.int .u64 (tn ((fromP x0.A.lo x0.A.hi).lo &&& ~~~(onesV ((fromP x0.A.lo x0.A.hi).lo ^^^ (fromP x0.A.lo x0.A.hi).hi))))), some (.int .u64 (tn (onesV ((fromP x0.A.lo x0.A.hi).lo ^^^ (fromP x0.A.lo x0.A.hi).hi))))], 51⟩, ⟨k5, [some (.int .u64 (tn (x0.V &&& ~~~x1))), some (.int .u64 (tn (x1)))], 51⟩, ⟨k6, [some (.int .u64 (tn ((P.mk (x0.V &&& ~~~x1) x1).lo))), some (.int .u64 (tn ((P.mk (x0.V &&& ~~~x1) x1).lo ||| (P.mk (x0.V &&& ~~~x1) x1).hi)))], 24⟩, ⟨k7, [some (.int .i64 (ti ((span_Sbounds (P.mk (x0.V &&& ~~~x1) x1)).lo))), some (.int .i64 (ti ((span_Sbounds (P.mk (x0.V &&& ~~~x1) x1)).hi)))], 38⟩, ⟨k8, [some (.int .u64 (tn ((P.mk (x0.V &&& ~~~x1) x1).lo))), some (.int .u64 (tn ((P.mk (x0.V &&& ~~~x1) x1).lo ||| (P.mk (x0.V &&& ~~~x1) x1).hi))), some (.int .u64 (tn ((span_Sbounds (P.mk (x0.V &&& ~~~x1) x1)).lo))), some (.int .u64 (tn ((span_Sbounds (P.mk (x0.V &&& ~~~x1) x1)).hi)))], 22⟩]) 9 rfl (by kernel_rfl) (HS.out.drew) ?_
  refine take_val (i := 0) (v := .slice (some ⟨k8, 0, none⟩) 4 4) (st_ups _ _) rfl rfl (by kernel_rfl) (fun _ _ _ h => h) (by rfl) (by intro x hx; go_simp; (first | done | exact rfl)) ?_
  simp only [List.set_cons_succ, List.set_cons_zero]
  refine take_val (i := 1) (v := .int .i64 1) (st_ups _ _) rfl rfl (by kernel_rfl) (fun _ _ _ h => h) (by rfl) (by intro x hx; go_simp; (first | done | exact rfl)) ?_
  simp only [List.set_cons_succ, List.set_cons_zero]
  refine take_val (i := 2) (v := .pointer (some ⟨k8, 1, none⟩)) (st_ups _ _) rfl rfl (by kernel_rfl) (fun _ _ _ h => h) (by rfl) (by intro x hx; go_simp; (first | done | exact rfl)) ?_
  simp only [List.set_cons_succ, List.set_cons_zero]
  refine take_val (i := 3) (v := .int .u64 (tn ((P.mk (x0.V &&& ~~~x1) x1).lo ||| (P.mk (x0.V &&& ~~~x1) x1).hi))) (st_ups _ _) rfl rfl (by kernel_rfl) (fun _ _ _ h => h) (by rfl) (by intro x hx; have f0 := hx.load 8 1 rfl rfl; go_simp; (first | done | exact rfl)) ?_
  simp only [List.set_cons_succ, List.set_cons_zero]
  refine take_val (i := 4) (v := .int .u64 (tn (x1))) (st_ups _ _) rfl rfl (by kernel_rfl) (fun _ _ _ h => h) (by rfl) (by intro x hx; go_simp; (first | done | exact rfl)) ?_
  simp only [List.set_cons_succ, List.set_cons_zero]
  refine take_val (i := 5) (v := .int .u64 (tn (((P.mk (x0.V &&& ~~~x1) x1).lo ||| (P.mk (x0.V &&& ~~~x1) x1).hi) &&& ~~~x1))) (st_ups _ _) rfl rfl (by kernel_rfl) (fun _ _ _ h => h) (by rfl) (by intro x hx; go_simp; (first | done | exact andNotUT ((P.mk (x0.V &&& ~~~x1) x1).lo ||| (P.mk (x0.V &&& ~~~x1) x1).hi) x1 | exact congrArg _ (andNotUT ((P.mk (x0.V &&& ~~~x1) x1).lo ||| (P.mk (x0.V &&& ~~~x1) x1).hi) x1) | (rw [andNotUT ((P.mk (x0.V &&& ~~~x1) x1).lo ||| (P.mk (x0.V &&& ~~~x1) x1).hi) x1]; done) | (rw [andNotUT ((P.mk (x0.V &&& ~~~x1) x1).lo ||| (P.mk (x0.V &&& ~~~x1) x1).hi) x1]; rfl))) ?_
  simp only [List.set_cons_succ, List.set_cons_zero]
  refine take_val (i := 6) (v := .pointer (some ⟨k5, 0, none⟩)) (st_ups _ _) rfl rfl (by kernel_rfl) (fun _ _ _ h => h) (by rfl) (by intro x hx; go_simp; (first | done | exact rfl)) ?_
  simp only [List.set_cons_succ, List.set_cons_zero]
  refine take_val (i := 7) (v := .int .u64 (tn (x0.V &&& ~~~x1))) (st_ups _ _) rfl rfl (by kernel_rfl) (fun _ _ _ h => h) (by rfl) (by intro x hx; have f0 := hx.load 5 0 rfl rfl; go_simp; (first | done | exact rfl)) ?_
  simp only [List.set_cons_succ, List.set_cons_zero]
  refine take_val (i := 8) (v := .bool false) (st_ups _ _) rfl rfl (by kernel_rfl) (fun _ _ _ h => h) (by rfl) (by intro x hx; go_simp; (first | done | (first | exact bne_of (end_1 x0.V x1) | exact eq_of_beq (bne_of (end_1 x0.V x1)) | exact congrArg _ (bne_of (end_1 x0.V x1)) | (rw [bne_of (end_1 x0.V x1)]; done) | ((first | rfl | exact neUT (((P.mk (x0.V &&& ~~~x1) x1).lo ||| (P.mk (x0.V &&& ~~~x1) x1).hi) &&& ~~~x1) (x0.V &&& ~~~x1) | exact congrArg _ (neUT (((P.mk (x0.V &&& ~~~x1) x1).lo ||| (P.mk (x0.V &&& ~~~x1) x1).hi) &&& ~~~x1) (x0.V &&& ~~~x1)) | (rw [neUT (((P.mk (x0.V &&& ~~~x1) x1).lo ||| (P.mk (x0.V &&& ~~~x1) x1).hi) &&& ~~~x1) (x0.V &&& ~~~x1)]; done) | (rw [neUT (((P.mk (x0.V &&& ~~~x1) x1).lo ||| (P.mk (x0.V &&& ~~~x1) x1).hi) &&& ~~~x1) (x0.V &&& ~~~x1)]; rfl)); rw [bne_of (end_1 x0.V x1)]) | exact congrArg tn (eq_of_beq (bne_of (end_1 x0.V x1))) | exact congrArg ti (eq_of_beq (bne_of (end_1 x0.V x1))) | exact congrArg tn (eq_of_bne (bne_of (end_1 x0.V x1))) | simpa using (bne_of (end_1 x0.V x1))))) ?_
  simp only [List.set_cons_succ, List.set_cons_zero]
  refine take_done (by kernel_rfl) ?_ _
  intro W14 hx
  replace HS := hid hx
  clear hx
  -- region 11
  go_upto_region 11 with fail
  refine lin_begin (St w [⟨w.heap.size, [some (.int .u64 (tn (x0.A.lo))), some (.int .u64 (tn (x0.A.hi))), some (.int .u64 (tn (x0.B.lo))), some (.int .u64 (tn (x0.B.hi))), some (.int .u64 (tn (x0.V))), some (.int .u64 (tn (x0.W))), some (.int .i64 (ti (x0.N)))], 60⟩, ⟨k1, [some (.int .u64 (tn ((fromP x0.A.lo x0.A.hi).lo))), some (.int .u64 (tn ((fromP x0.A.lo x0.A.hi).hi)))], 24⟩, ⟨k2, [some (.int .u64 (tn ((fromP x0.B.lo x0.B.hi).lo))), some (.int .u64 (tn ((fromP x0.B.lo x0.B.hi).hi)))], 24⟩, ⟨k3, [some (.int .u64 (tn (minU (fromP x0.A.lo x0.A.hi).lo (fromP x0.B.lo x0.B.hi).lo))), some (.int .u64 (tn (maxU (fromP x0.A.lo x0.A.hi).hi (fromP x0.B.lo x0.B.hi).hi)))], 24⟩, ⟨k4, [some (.int .u64 (tn ((fromP x0.A.lo x0.A.hi).lo &&& ~~~(onesV ((fromP x0.A.lo x0.A.hi).lo ^^^ (fromP x0.A.lo x0.A.hi).hi))))), some (.int .u64 (tn (onesV ((fromP x0.A.lo x0.A.hi).lo ^^^ (fromP x0.A.lo x0.A.hi).hi))))], 51⟩, ⟨k5, [some (.int .u64 (tn (x0.V &&& ~~~x1))), some (.int .u64 (tn (x1)))], 51⟩, ⟨k6, [some (.int .u64 (tn ((P.mk (x0.V &&& ~~~x1) x1).lo))), some (.int .u64 (tn ((P.mk (x0.V &&& ~~~x1) x1).lo ||| (P.mk (x0.V &&& ~~~x1) x1).hi)))], 24⟩, ⟨k7, [some (.int .i64 (ti ((span_Sbounds (P.mk (x0.V &&& ~~~x1) x1)).lo))), some (.int .i64 (ti ((span_Sbounds (P.mk (x0.V &&& ~~~x1) x1)).hi)))], 38⟩, ⟨k8, [some (.int .u64 (tn ((P.mk (x0.V &&& ~~~x1) x1).lo))), some (.int .u64 (tn ((P.mk (x0.V &&& ~~~x1) x1).lo ||| (P.mk (x0.V &&& ~~~x1) x1).hi))), some (.int .u64 (tn ((span_Sbounds (P.mk (x0.V &&& ~~~x1) x1)).lo))), some (.int .u64 (tn ((span_Sbounds (P.mk (x0.V &&& ~~~x1) x1)).hi)))], 22⟩]) rfl HS.out ?_
  refine lin_val (i := 0) (v := .int .i64 1) rfl rfl (by rfl) (by intro x hx; go_simp; (first | done | exact rfl)) ?_
  simp only [List.set_cons_succ, List.set_cons_zero]
  refine lin_val (i := 1) (v := .int .i64 2) rfl rfl (by rfl) (by intro x hx; go_simp; (first | done | exact rfl)) ?_
  simp only [List.set_cons_succ, List.set_cons_zero]
  refine lin_val (i := 2) (v := .int .i64 2) rfl rfl (by rfl) (by intro x hx; go_simp; (first | done | exact rfl)) ?_
  simp only [List.set_cons_succ, List.set_cons_zero]
  refine lin_done ?_
  intro W15 hx
  replace HS := hid hx
  clear hx
  go_wp2
  rw [rounds_succ]
  -- region 10
  go_upto_region 10 with fail
  refine lin_begin (St w [⟨w.heap.size, [some (.int .u64 (tn (x0.A.lo))), some (.int .u64 (tn (x0.A.hi))), some (.int .u64 (tn (x0.B.lo))), some (.int .u64 (tn (x0.B.hi))), some (.int .u64 (tn (x0.V))), some (.int .u64 (tn (x0.W))), some (.int .i64 (ti (x0.N)))], 60⟩, ⟨k1, [some (.int .u64 (tn ((fromP x0.A.lo x0.A.hi).lo))), some (.int .u64 (tn ((fromP x0.A.lo x0.A.hi).hi)))], 24⟩, ⟨k2, [some (.int .u64 (tn ((fromP x0.B.lo x0.B.hi).lo))), some (.int .u64 (tn ((fromP x0.B.lo x0.B.hi).hi)))], 24⟩, ⟨k3, [some (.int .u64 (tn (minU (fromP x0.A.lo x0.A.hi).lo (fromP x0.B.lo x0.B.hi).lo))), some (.int .u64 (tn (maxU (fromP x0.A.lo x0.A.hi).hi (fromP x0.B.lo x0.B.hi).hi)))], 24⟩, ⟨k4, [some (.int .u64 (tn ((fromP x0.A.lo x0.A.hi).lo &&& ~~~(onesV ((fromP x0.A.lo x0.A.hi).lo ^^^ (fromP x0.A.lo x0.A.hi).hi))))), some (.int .u64 (tn (onesV ((fromP x0.A.lo x0.A.hi).lo ^^^ (fromP x0.A.lo x0.A.hi).hi))))], 51⟩, ⟨k5, [some (.int .u64 (tn (x0.V &&& ~~~x1))), some (.int .u64 (tn (x1)))], 51⟩, ⟨k6, [some (.int .u64 (tn ((P.mk (x0.V &&& ~~~x1) x1).lo))), some (.int .u64 (tn ((P.mk (x0.V &&& ~~~x1) x1).lo ||| (P.mk (x0.V &&& ~~~x1) x1).hi)))], 24⟩, ⟨k7, [some (.int .i64 (ti ((span_Sbounds (P.mk (x0.V &&& ~~~x1) x1)).lo))), some (.int .i64 (ti ((span_Sbounds (P.mk (x0.V &&& ~~~x1) x1)).hi)))], 38⟩, ⟨k8, [some (.int .u64 (tn ((P.mk (x0.V &&& ~~~x1) x1).lo))), some (.int .u64 (tn ((P.mk (x0.V &&& ~~~x1) x1).lo ||| (P.mk (x0.V &&& ~~~x1) x1).hi))), some (.int .u64 (tn ((span_Sbounds (P.mk (x0.V &&& ~~~x1) x1)).lo))), some (.int .u64 (tn ((span_Sbounds (P.mk (x0.V &&& ~~~x1) x1)).hi)))], 22⟩]) rfl HS.out ?_
  refine lin_val (i := 0) (v := .int .i64 2) rfl rfl (by rfl) (by intro x hx; go_simp; (first | done | exact rfl)) ?_
  simp only [List.set_cons_succ, List.set_cons_zero]
  refine lin_val (i := 1) (v := .slice (some ⟨k8, 0, none⟩) 4 4) rfl rfl (by rfl) (by intro x hx; go_simp; (first | done | exact rfl)) ?_
  simp only [List.set_cons_succ, List.set_cons_zero]
  refine lin_val (i := 2) (v := .int .i64 4) rfl rfl (by rfl) (by intro x hx; go_simp; (first | done | exact rfl)) ?_
  simp only [List.set_cons_succ, List.set_cons_zero]
  refine lin_val (i := 3) (v := .bool true) rfl rfl (by rfl) (by intro x hx; go_simp; (first | done | exact rfl)) ?_
  simp only [List.set_cons_succ, List.set_cons_zero]
  refine lin_done ?_
  intro W16 hx
  replace HS := hid hx
  clear hx
  -- region 12
  go_upto_region 12 with fail
  refine up_begin (St w [⟨w.heap.size, [some (.int .u64 (tn (x0.A.lo))), some (.int .u64 (tn (x0.A.hi))), some (.int .u64 (tn (x0.B.lo))), some (.int .u64 (tn (x0.B.hi))), some (.int .u64 (tn (x0.V))), some (.int .u64 (tn (x0.W))), some (.int .i64 (ti (x0.N)))], 60⟩, ⟨k1, [some (.int .u64 (tn ((fromP x0.A.lo x0.A.hi).lo))), some (.int .u64 (tn ((fromP x0.A.lo x0.A.hi).hi)))], 24⟩, ⟨k2, [some (.int .u64 (tn ((fromP x0.B.lo x0.B.hi).lo))), some (.int .u64 (tn ((fromP x0.B.lo x0.B.hi).hi)))], 24⟩, ⟨k3, [some (.int .u64 (tn (minU (fromP x0.A.lo x0.A.hi).lo (fromP x0.B.lo x0.B.hi).lo))), some (.int .u64 (tn (maxU (fromP x0.A.lo x0.A.hi).hi (fromP x0.B.lo x0.B.hi).hi)))], 24⟩, ⟨k4, [some (.int .u64 (tn ((fromP x0.A.lo x0.A.hi).lo &&& ~~~(onesV ((fromP x0.A.lo x0.A.hi).lo ^^^ (fromP x0.A.lo x0.A.hi).hi))))), some (.int .u64 (tn (onesV ((fromP x0.A.lo x0.A.hi).lo ^^^ (fromP x0.A.lo x0.A.hi).hi))))], 51⟩, ⟨k5, [some (.int .u64 (tn (x0.V &&& ~~~x1))), some (.int .u64 (tn (x1)))], 51⟩, ⟨k6, [some (.int .u64 (tn ((P.mk (x0.V &&& ~~~x1) x1).lo))), some (.int .u64 (tn ((P.mk (x0.V &&& ~~~x1) x1).lo ||| (P.mk (x0.V &&& ~~~x1) x1).hi)))], 24⟩, ⟨k7, [some (.int .i64 (ti ((span_Sbounds (P.mk (x0.V &&& ~~~x1) x1)).lo))), some (.int .i64 (ti ((span_Sbounds (P.mk (x0.V &&& ~~~x1) x1)).hi)))], 38⟩, ⟨k8, [some (.int .u64 (tn ((P.mk (x0.V &&& ~~~x1) x1).lo))), some (.int .u64 (tn ((P.mk (x0.V &&& ~~~x1) x1).lo ||| (P.mk (x0.V &&& ~~~x1) x1).hi))), some (.int .u64 (tn ((span_Sbounds (P.mk (x0.V &&& ~~~x1) x1)).lo))), some (.int .u64 (tn ((span_Sbounds (P.mk (x0.V &&& ~~~x1) x1)).hi)))], 22⟩]) 9 rfl (by kernel_rfl) (HS.out.drew) ?_
  refine take_val (i := 0) (v := .slice (some ⟨k8, 0, none⟩) 4 4) (st_ups _ _) rfl rfl (by kernel_rfl) (fun _ _ _ h => h) (by rfl) (by intro x hx; go_simp; (first | done | exact rfl)) ?_
  simp only [List.set_cons_succ, List.set_cons_zero]
  refine take_val (i := 1) (v := .int .i64 2) (st_ups _ _) rfl rfl (by kernel_rfl) (fun _ _ _ h => h) (by rfl) (by intro x hx; go_simp; (first | done | exact rfl)) ?_
  simp only [List.set_cons_succ, List.set_cons_zero]
  refine take_val (i := 2) (v := .pointer (some ⟨k8, 2, none⟩)) (st_ups _ _) rfl rfl (by kernel_rfl) (fun _ _ _ h => h) (by rfl) (by intro x hx; go_simp; (first | done | exact rfl)) ?_
  simp only [List.set_cons_succ, List.set_cons_zero]
  refine take_val (i := 3) (v := .int .u64 (tn ((span_Sbounds (P.mk (x0.V &&& ~~~x1) x1)).lo))) (st_ups _ _) rfl rfl (by kernel_rfl) (fun _ _ _ h => h) (by rfl) (by intro x hx; have f0 := hx.load 8 2 rfl rfl; go_simp; (first | done | exact rfl)) ?_
  simp only [List.set_cons_succ, List.set_cons_zero]
  refine take_val (i := 4) (v := .int .u64 (tn (x1))) (st_ups _ _) rfl rfl (by kernel_rfl) (fun _ _ _ h => h) (by rfl) (by intro x hx; go_simp; (first | done | exact rfl)) ?_
  simp only [List.set_cons_succ, List.set_cons_zero]
  refine take_val (i := 5) (v := .int .u64 (tn (((span_Sbounds (P.mk (x0.V &&& ~~~x1) x1)).lo) &&& ~~~x1))) (st_ups _ _) rfl rfl (by kernel_rfl) (fun _ _ _ h => h) (by rfl) (by intro x hx; go_simp; (first | done | exact andNotUT ((span_Sbounds (P.mk (x0.V &&& ~~~x1) x1)).lo) x1 | exact congrArg _ (andNotUT ((span_Sbounds (P.mk (x0.V &&& ~~~x1) x1)).lo) x1) | (rw [andNotUT ((span_Sbounds (P.mk (x0.V &&& ~~~x1) x1)).lo) x1]; done) | (rw [andNotUT ((span_Sbounds (P.mk (x0.V &&& ~~~x1) x1)).lo) x1]; rfl))) ?_
  simp only [List.set_cons_succ, List.set_cons_zero]
  refine take_val (i := 6) (v := .pointer (some ⟨k5, 0, none⟩)) (st_ups _ _) rfl rfl (by kernel_rfl) (fun _ _ _ h => h) (by rfl) (by intro x hx; go_simp; (first | done | exact rfl)) ?_
  simp only [List.set_cons_succ, List.set_cons_zero]
  refine take_val (i := 7) (v := .int .u64 (tn (x0.V &&& ~~~x1))) (st_ups _ _) rfl rfl (by kernel_rfl) (fun _ _ _ h => h) (by rfl) (by intro x hx; have f0 := hx.load 5 0 rfl rfl; go_simp; (first | done | exact rfl)) ?_
  simp only [List.set_cons_succ, List.set_cons_zero]
  refine take_val (i := 8) (v := .bool false) (st_ups _ _) rfl rfl (by kernel_rfl) (fun _ _ _ h => h) (by rfl) (by intro x hx; go_simp; (first | done | (first | exact bne_of (end_2 x0.V x1) | exact eq_of_beq (bne_of (end_2 x0.V x1)) | exact congrArg _ (bne_of (end_2 x0.V x1)) | (rw [bne_of (end_2 x0.V x1)]; done) | ((first | rfl | exact neUT (((span_Sbounds (P.mk (x0.V &&& ~~~x1) x1)).lo) &&& ~~~x1) (x0.V &&& ~~~x1) | exact congrArg _ (neUT (((span_Sbounds (P.mk (x0.V &&& ~~~x1) x1)).lo) &&& ~~~x1) (x0.V &&& ~~~x1)) | (rw [neUT (((span_Sbounds (P.mk (x0.V &&& ~~~x1) x1)).lo) &&& ~~~x1) (x0.V &&& ~~~x1)]; done) | (rw [neUT (((span_Sbounds (P.mk (x0.V &&& ~~~x1) x1)).lo) &&& ~~~x1) (x0.V &&& ~~~x1)]; rfl)); rw [bne_of (end_2 x0.V x1)]) | exact congrArg tn (eq_of_beq (bne_of (end_2 x0.V x1))) | exact congrArg ti (eq_of_beq (bne_of (end_2 x0.V x1))) | exact congrArg tn (eq_of_bne (bne_of (end_2 x0.V x1))) | simpa using (bne_of (end_2 x0.V x1))))) ?_
  simp only [List.set_cons_succ, List.set_cons_zero]
  refine take_done (by kernel_rfl) ?_ _
  intro W17 hx
  replace HS := hid hx
  clear hx
  -- region 11
  go_upto_region 11 with fail
  refine lin_begin (St w [⟨w.heap.size, [some (.int .u64 (tn (x0.A.lo))), some (.int .u64 (tn (x0.A.hi))), some (.int .u64 (tn (x0.B.lo))), some (.int .u64 (tn (x0.B.hi))), some (.int .u64 (tn (x0.V))), some (.int .u64 (tn (x0.W))), some (.int .i64 (ti (x0.N)))], 60⟩, ⟨k1, [some (.int .u64 (tn ((fromP x0.A.lo x0.A.hi).lo))), some (.int .u64 (tn ((fromP x0.A.lo x0.A.hi).hi)))], 24⟩, ⟨k2, [some (.int .u64 (tn ((fromP x0.B.lo x0.B.hi).lo))), some (.int .u64 (tn ((fromP x0.B.lo x0.B.hi).hi)))], 24⟩, ⟨k3, [some (.int .u64 (tn (minU (fromP x0.A.lo x0.A.hi).lo (fromP x0.B.lo x0.B.hi).lo))), some (.int .u64 (tn (maxU (fromP x0.A.lo x0.A.hi).hi (fromP x0.B.lo x0.B.hi).hi)))], 24⟩, ⟨k4, [some (.int .u64 (tn ((fromP x0.A.lo x0.A.hi).lo &&& ~~~(onesV ((fromP x0.A.lo x0.A.hi).lo ^^^ (fromP x0.A.lo x0.A.hi).hi))))), some (.int .u64 (tn (onesV ((fromP x0.A.lo x0.A.hi).lo ^^^ (fromP x0.A.lo x0.A.hi).hi))))], 51⟩, ⟨k5, [some (.int .u64 (tn (x0.V &&& ~~~x1))), some (.int .u64 (tn (x1)))], 51⟩, ⟨k6, [some (.int .u64 (tn ((P.mk (x0.V &&& ~~~x1) x1).lo))), some (.int .u64 (tn ((P.mk (x0.V &&& ~~~x1) x1).lo ||| (P.mk (x0.V &&& ~~~x1) x1).hi)))], 24⟩, ⟨k7, [some (.int .i64 (ti ((span_Sbounds (P.mk (x0.V &&& ~~~x1) x1)).lo))), some (.int .i64 (ti ((span_Sbounds (P.mk (x0.V &&& ~~~x1) x1)).hi)))], 38⟩, ⟨k8, [some (.int .u64 (tn ((P.mk (x0.V &&& ~~~x1) x1).lo))), some (.int .u64 (tn ((P.mk (x0.V &&& ~~~x1) x1).lo ||| (P.mk (x0.V &&& ~~~x1) x1).hi))), some (.int .u64 (tn ((span_Sbounds (P.mk (x0.V &&& ~~~x1) x1)).lo))), some (.int .u64 (tn ((span_Sbounds (P.mk (x0.V &&& ~~~x1) x1)).hi)))], 22⟩]) rfl HS.out ?_
  refine lin_val (i := 0) (v := .int .i64 2) rfl rfl (by rfl) (by intro x hx; go_simp; (first | done | exact rfl)) ?_
  simp only [List.set_cons_succ, List.set_cons_zero]
  refine lin_val (i := 1) (v := .int .i64 3) rfl rfl (by rfl) (by intro x hx; go_simp; (first | done | exact rfl)) ?_
  simp only [List.set_cons_succ, List.set_cons_zero]
  refine lin_val (i := 2) (v := .int .i64 3) rfl rfl (by rfl) (by intro x hx; go_simp; (first | done | exact rfl)) ?_
  simp only [List.set_cons_succ, List.set_cons_zero]
  refine lin_done ?_
  intro W18 hx
  replace HS := hid hx
  clear hx
  go_wp2
  rw [rounds_succ]
  -- region 10
  go_upto_region 10 with fail
  refine lin_begin (St w [⟨w.heap.size, [some (.int .u64 (tn (x0.A.lo))), some (.int .u64 (tn (x0.A.hi))), some (.int .u64 (tn (x0.B.lo))), some (.int .u64 (tn (x0.B.hi))), some (.int .u64 (tn (x0.V))), some (.int .u64 (tn (x0.W))), some (.int .i64 (ti (x0.N)))], 60⟩, ⟨k1, [some (.int .u64 (tn ((fromP x0.A.lo x0.A.hi).lo))), some (.int .u64 (tn ((fromP x0.A.lo x0.A.hi).hi)))], 24⟩, ⟨k2, [some (.int .u64 (tn ((fromP x0.B.lo x0.B.hi).lo))), some (.int .u64 (tn ((fromP x0.B.lo x0.B.hi).hi)))], 24⟩, ⟨k3, [some (.int .u64 (tn (minU (fromP x0.A.lo x0.A.hi).lo (fromP x0.B.lo x0.B.hi).lo))), some (.int .u64 (tn (maxU (fromP x0.A.lo x0.A.hi).hi (fromP x0.B.lo x0.B.hi).hi)))], 24⟩, ⟨k4, [some (.int .u64 (tn ((fromP x0.A.lo x0.A.hi).lo &&& ~~~(onesV ((fromP x0.A.lo x0.A.hi).lo ^^^ (fromP x0.A.lo x0.A.hi).hi))))), some (.int .u64 (tn (onesV ((fromP x0.A.lo x0.A.hi).lo ^^^ (fromP x0.A.lo x0.A.hi).hi))))], 51⟩, ⟨k5, [some (.int .u64 (tn (x0.V &&& ~~~x1))), some (.int .u64 (tn (x1)))], 51⟩, ⟨k6, [some (.int .u64 (tn ((P.mk (x0.V &&& ~~~x1) x1).lo))), some (.int .u64 (tn ((P.mk (x0.V &&& ~~~x1) x1).lo ||| (P.mk (x0.V &&& ~~~x1) x1).hi)))], 24⟩, ⟨k7, [some (.int .i64 (ti ((span_Sbounds (P.mk (x0.V &&& ~~~x1) x1)).lo))), some (.int .i64 (ti ((span_Sbounds (P.mk (x0.V &&& ~~~x1) x1)).hi)))], 38⟩, ⟨k8, [some (.int .u64 (tn ((P.mk (x0.V &&& ~~~x1) x1).lo))), some (.int .u64 (tn ((P.mk (x0.V &&& ~~~x1) x1).lo ||| (P.mk (x0.V &&& ~~~x1) x1).hi))), some (.int .u64 (tn ((span_Sbounds (P.mk (x0.V &&& ~~~x1) x1)).lo))), some (.int .u64 (tn ((span_Sbounds (P.mk (x0.V &&& ~~~x1) x1)).hi)))], 22⟩]) rfl HS.out ?_
  refine lin_val (i := 0) (v := .int .i64 3) rfl rfl (by rfl) (by intro x hx; go_simp; (first | done | exact rfl)) ?_
  simp only [List.set_cons_succ, List.set_cons_zero]
  refine lin_val (i := 1) (v := .slice (some ⟨k8, 0, none⟩) 4 4) rfl rfl (by rfl) (by intro x hx; go_simp; (first | done | exact rfl)) ?_
  simp only [List.set_cons_succ, List.set_cons_zero]
  refine lin_val (i := 2) (v := .int .i64 4) rfl rfl (by rfl) (by intro x hx; go_simp; (first | done | exact rfl)) ?_
  simp only [List.set_cons_succ, List.set_cons_zero]
  refine lin_val (i := 3) (v := .bool true) rfl rfl (by rfl) (by intro x hx; go_simp; (first | done | exact rfl)) ?_
  simp only [List.set_cons_succ, List.set_cons_zero]
  refine lin_done ?_
  intro W19 hx
  replace HS := hid hx
  clear hx
  -- region 12
  go_upto_region 12 with fail
  refine up_begin (St w [⟨w.heap.size, [some (.int .u64 (tn (x0.A.lo))), some (.int .u64 (tn (x0.A.hi))), some (.int .u64 (tn (x0.B.lo))), some (.int .u64 (tn (x0.B.hi))), some (.int .u64 (tn (x0.V))), some (.int .u64 (tn (x0.W))), some (.int .i64 (ti (x0.N)))], 60⟩, ⟨k1, [some (.int .u64 (tn ((fromP x0.A.lo x0.A.hi).lo))), some (.int .u64 (tn ((fromP x0.A.lo x0.A.hi).hi)))], 24⟩, ⟨k2, [some (.int .u64 (tn ((fromP x0.B.lo x0.B.hi).lo))), some (.int .u64 (tn ((fromP x0.B.lo x0.B.hi).hi)))], 24⟩, ⟨k3, [some (.int .u64 (tn (minU (fromP x0.A.lo x0.A.hi).lo (fromP x0.B.lo x0.B.hi).lo))), some (.int .u64 (tn (maxU (fromP x0.A.lo x0.A.hi).hi (fromP x0.B.lo x0.B.hi).hi)))], 24⟩, ⟨k4, [some (.int .u64 (tn ((fromP x0.A.lo x0.A.hi).lo &&& ~~~(onesV ((fromP x0.A.lo x0.A.hi).lo ^^^ (fromP x0.A.lo x0.A.hi).hi))))), some (.int .u64 (tn (onesV ((fromP x0.A.lo x0.A.hi).lo ^^^ (fromP x0.A.lo x0.A.hi).hi))))], 51⟩, ⟨k5, [some (.int .u64 (tn (x0.V &&& ~~~x1))), some (.int .u64 (tn (x1)))], 51⟩, ⟨k6, [some (.int .u64 (tn ((P.mk (x0.V &&& ~~~x1) x1).lo))), some (.int .u64 (tn ((P.mk (x0.V &&& ~~~x1) x1).lo ||| (P.mk (x0.V &&& ~~~x1) x1).hi)))], 24⟩, ⟨k7, [some (.int .i64 (ti ((span_Sbounds (P.mk (x0.V &&& ~~~x1) x1)).lo))), some (.int .i64 (ti ((span_Sbounds (P.mk (x0.V &&& ~~~x1) x1)).hi)))], 38⟩, ⟨k8, [some (.int .u64 (tn ((P.mk (x0.V &&& ~~~x1) x1).lo))), some (.int .u64 (tn ((P.mk (x0.V &&& ~~~x1) x1).lo ||| (P.mk (x0.V &&& ~~~x1) x1).hi))), some (.int .u64 (tn ((span_Sbounds (P.mk (x0.V &&& ~~~x1) x1)).lo))), some (.int .u64 (tn ((span_Sbounds (P.mk (x0.V &&& ~~~x1) x1)).hi)))], 22⟩]) 9 rfl (by kernel_rfl) (HS.out.drew) ?_
  refine take_val (i := 0) (v := .slice (some ⟨k8, 0, none⟩) 4 4) (st_ups _ _) rfl rfl (by kernel_rfl) (fun _ _ _ h => h) (by rfl) (by intro x hx; go_simp; (first | done | exact rfl)) ?_
  simp only [List.set_cons_succ, List.set_cons_zero]
  refine take_val (i := 1) (v := .int .i64 3) (st_ups _ _) rfl rfl (by kernel_rfl) (fun _ _ _ h => h) (by rfl) (by intro x hx; go_simp; (first | done | exact rfl)) ?_
  simp only [List.set_cons_succ, List.set_cons_zero]
  refine take_val (i := 2) (v := .pointer (some ⟨k8, 3, none⟩)) (st_ups _ _) rfl rfl (by kernel_rfl) (fun _ _ _ h => h) (by rfl) (by intro x hx; go_simp; (first | done | exact rfl)) ?_
  simp only [List.set_cons_succ, List.set_cons_zero]
  refine take_val (i := 3) (v := .int .u64 (tn ((span_Sbounds (P.mk (x0.V &&& ~~~x1) x1)).hi))) (st_ups _ _) rfl rfl (by kernel_rfl) (fun _ _ _ h => h) (by rfl) (by intro x hx; have f0 := hx.load 8 3 rfl rfl; go_simp; (first | done | exact rfl)) ?_
  simp only [List.set_cons_succ, List.set_cons_zero]
  refine take_val (i := 4) (v := .int .u64 (tn (x1))) (st_ups _ _) rfl rfl (by kernel_rfl) (fun _ _ _ h => h) (by rfl) (by intro x hx; go_simp; (first | done | exact rfl)) ?_
  simp only [List.set_cons_succ, List.set_cons_zero]
  refine take_val (i := 5) (v := .int .u64 (tn (((span_Sbounds (P.mk (x0.V &&& ~~~x1) x1)).hi) &&& ~~~x1))) (st_ups _ _) rfl rfl (by kernel_rfl) (fun _ _ _ h => h) (by rfl) (by intro x hx; go_simp; (first | done | exact andNotUT ((span_Sbounds (P.mk (x0.V &&& ~~~x1) x1)).hi) x1 | exact congrArg _ (andNotUT ((span_Sbounds (P.mk (x0.V &&& ~~~x1) x1)).hi) x1) | (rw [andNotUT ((span_Sbounds (P.mk (x0.V &&& ~~~x1) x1)).hi) x1]; done) | (rw [andNotUT ((span_Sbounds (P.mk (x0.V &&& ~~~x1) x1)).hi) x1]; rfl))) ?_
  simp only [List.set_cons_succ, List.set_cons_zero]
  refine take_val (i := 6) (v := .pointer (some ⟨k5, 0, none⟩)) (st_ups _ _) rfl rfl (by kernel_rfl) (fun _ _ _ h => h) (by rfl) (by intro x hx; go_simp; (first | done | exact rfl)) ?_
  simp only [List.set_cons_succ, List.set_cons_zero]
  refine take_val (i := 7) (v := .int .u64 (tn (x0.V &&& ~~~x1))) (st_ups _ _) rfl rfl (by kernel_rfl) (fun _ _ _ h => h) (by rfl) (by intro x hx; have f0 := hx.load 5 0 rfl rfl; go_simp; (first | done | exact rfl)) ?_
  simp only [List.set_cons_succ, List.set_cons_zero]
  refine take_val (i := 8) (v := .bool false) (st_ups _ _) rfl rfl (by kernel_rfl) (fun _ _ _ h => h) (by rfl) (by intro x hx; go_simp; (first | done | (first | exact bne_of (end_3 x0.V x1) | exact eq_of_beq (bne_of (end_3 x0.V x1)) | exact congrArg _ (bne_of (end_3 x0.V x1)) | (rw [bne_of (end_3 x0.V x1)]; done) | ((first | rfl | exact neUT (((span_Sbounds (P.mk (x0.V &&& ~~~x1) x1)).hi) &&& ~~~x1) (x0.V &&& ~~~x1) | exact congrArg _ (neUT (((span_Sbounds (P.mk (x0.V &&& ~~~x1) x1)).hi) &&& ~~~x1) (x0.V &&& ~~~x1)) | (rw [neUT (((span_Sbounds (P.mk (x0.V &&& ~~~x1) x1)).hi) &&& ~~~x1) (x0.V &&& ~~~x1)]; done) | (rw [neUT (((span_Sbounds (P.mk (x0.V &&& ~~~x1) x1)).hi) &&& ~~~x1) (x0.V &&& ~~~x1)]; rfl)); rw [bne_of (end_3 x0.V x1)]) | exact congrArg tn (eq_of_beq (bne_of (end_3 x0.V x1))) | exact congrArg ti (eq_of_beq (bne_of (end_3 x0.V x1))) | exact congrArg tn (eq_of_bne (bne_of (end_3 x0.V x1))) | simpa using (bne_of (end_3 x0.V x1))))) ?_
  simp only [List.set_cons_succ, List.set_cons_zero]
  refine take_done (by kernel_rfl) ?_ _
  intro W20 hx
  replace HS := hid hx
  clear hx
  -- region 11
  go_upto_region 11 with fail
  refine lin_begin (St w [⟨w.heap.size, [some (.int .u64 (tn (x0.A.lo))), some (.int .u64 (tn (x0.A.hi))), some (.int .u64 (tn (x0.B.lo))), some (.int .u64 (tn (x0.B.hi))), some (.int .u64 (tn (x0.V))), some (.int .u64 (tn (x0.W))), some (.int .i64 (ti (x0.N)))], 60⟩, ⟨k1, [some (.int .u64 (tn ((fromP x0.A.lo x0.A.hi).lo))), some (.int .u64 (tn ((fromP x0.A.lo x0.A.hi).hi)))], 24⟩, ⟨k2, [some (.int .u64 (tn ((fromP x0.B.lo x0.B.hi).lo))), some (.int .u64 (tn ((fromP x0.B.lo x0.B.hi).hi)))], 24⟩, ⟨k3, [some (.int .u64 (tn (minU (fromP x0.A.lo x0.A.hi).lo (fromP x0.B.lo x0.B.hi).lo))), some (.int .u64 (tn (maxU (fromP x0.A.lo x0.A.hi).hi (fromP x0.B.lo x0.B.hi).hi)))], 24⟩, ⟨k4, [some (.int .u64 (tn ((fromP x0.A.lo x0.A.hi).lo &&& ~~~(onesV ((fromP x0.A.lo x0.A.hi).lo ^^^ (fromP x0.A.lo x0.A.hi).hi))))), some (.int .u64 (tn (onesV ((fromP x0.A.lo x0.A.hi).lo ^^^ (fromP x0.A.lo x0.A.hi).hi))))], 51⟩, ⟨k5, [some (.int .u64 (tn (x0.V &&& ~~~x1))), some (.int .u64 (tn (x1)))], 51⟩, ⟨k6, [some (.int .u64 (tn ((P.mk (x0.V &&& ~~~x1) x1).lo))), some (.int .u64 (tn ((P.mk (x0.V &&& ~~~x1) x1).lo ||| (P.mk (x0.V &&& ~~~x1) x1).hi)))], 24⟩, ⟨k7, [some (.int .i64 (ti ((span_Sbounds (P.mk (x0.V &&& ~~~x1) x1)).lo))), some (.int .i64 (ti ((span_Sbounds (P.mk (x0.V &&& ~~~x1) x1)).hi)))], 38⟩, ⟨k8, [some (.int .u64 (tn ((P.mk (x0.V &&& ~~~x1) x1).lo))), some (.int .u64 (tn ((P.mk (x0.V &&& ~~~x1) x1).lo ||| (P.mk (x0.V &&& ~~~x1) x1).hi))), some (.int .u64 (tn ((span_Sbounds (P.mk (x0.V &&& ~~~x1) x1)).lo))), some (.int .u64 (tn ((span_Sbounds (P.mk (x0.V &&& ~~~x1) x1)).hi)))], 22⟩]) rfl HS.out ?_
  refine lin_val (i := 0) (v := .int .i64 3) rfl rfl (by rfl) (by intro x hx; go_simp; (first | done | exact rfl)) ?_
  simp only [List.set_cons_succ, List.set_cons_zero]
  refine lin_val (i := 1) (v := .int .i64 4) rfl rfl (by rfl) (by intro x hx; go_simp; (first | done | exact rfl)) ?_
  simp only [List.set_cons_succ, List.set_cons_zero]
  refine lin_val (i := 2) (v := .int .i64 4) rfl rfl (by rfl) (by intro x hx; go_simp; (first | done | exact rfl)) ?_
  simp only [List.set_cons_succ, List.set_cons_zero]
  refine lin_done ?_
  intro W21 hx
  replace HS := hid hx
  clear hx
  go_wp2
  rw [rounds_succ]
  -- region 10
  go_upto_region 10 with fail
  refine lin_begin (St w [⟨w.heap.size, [some (.int .u64 (tn (x0.A.lo))), some (.int .u64 (tn (x0.A.hi))), some (.int .u64 (tn (x0.B.lo))), some (.int .u64 (tn (x0.B.hi))), some (.int .u64 (tn (x0.V))), some (.int .u64 (tn (x0.W))), some (.int .i64 (ti (x0.N)))], 60⟩, ⟨k1, [some (.int .u64 (tn ((fromP x0.A.lo x0.A.hi).lo))), some (.int .u64 (tn ((fromP x0.A.lo x0.A.hi).hi)))], 24⟩, ⟨k2, [some (.int .u64 (tn ((fromP x0.B.lo x0.B.hi).lo))), some (.int .u64 (tn ((fromP x0.B.lo x0.B.hi).hi)))], 24⟩, ⟨k3, [some (.int .u64 (tn (minU (fromP x0.A.lo x0.A.hi).lo (fromP x0.B.lo x0.B.hi).lo))), some (.int .u64 (tn (maxU (fromP x0.A.lo x0.A.hi).hi (fromP x0.B.lo x0.B.hi).hi)))], 24⟩, ⟨k4, [some (.int .u64 (tn ((fromP x0.A.lo x0.A.hi).lo &&& ~~~(onesV ((fromP x0.A.lo x0.A.hi).lo ^^^ (fromP x0.A.lo x0.A.hi).hi))))), some (.int .u64 (tn (onesV ((fromP x0.A.lo x0.A.hi).lo ^^^ (fromP x0.A.lo x0.A.hi).hi))))], 51⟩, ⟨k5, [some (.int .u64 (tn (x0.V &&& ~~~x1))), some (.int .u64 (tn (x1)))], 51⟩, ⟨k6, [some (.int .u64 (tn ((P.mk (x0.V &&& ~~~x1) x1).lo))), some (.int .u64 (tn ((P.mk (x0.V &&& ~~~x1) x1).lo ||| (P.mk (x0.V &&& ~~~x1) x1).hi)))], 24⟩, ⟨k7, [some (.int .i64 (ti ((span_Sbounds (P.mk (x0.V &&& ~~~x1) x1)).lo))), some (.int .i64 (ti ((span_Sbounds (P.mk (x0.V &&& ~~~x1) x1)).hi)))], 38⟩, ⟨k8, [some (.int .u64 (tn ((P.mk (x0.V &&& ~~~x1) x1).lo))), some (.int .u64 (tn ((P.mk (x0.V &&& ~~~x1) x1).lo ||| (P.mk (x0.V &&& ~~~x1) x1).hi))), some (.int .u64 (tn ((span_Sbounds (P.mk (x0.V &&& ~~~x1) x1)).lo))), some (.int .u64 (tn ((span_Sbounds (P.mk (x0.V &&& ~~~x1) x1)).hi)))], 22⟩]) rfl HS.out ?_
  refine lin_val (i := 0) (v := .int .i64 4) rfl rfl (by rfl) (by intro x hx; go_simp; (first | done | exact rfl)) ?_
  simp only [List.set_cons_succ, List.set_cons_zero]
  refine lin_val (i := 1) (v := .slice (some ⟨k8, 0, none⟩) 4 4) rfl rfl (by rfl) (by intro x hx; go_simp; (first | done | exact rfl)) ?_
  simp only [List.set_cons_succ, List.set_cons_zero]
  refine lin_val (i := 2) (v := .int .i64 4) rfl rfl (by rfl) (by intro x hx; go_simp; (first | done | exact rfl)) ?_
  simp only [List.set_cons_succ, List.set_cons_zero]
  refine lin_val (i := 3) (v := .bool false) rfl rfl (by rfl) (by intro x hx; go_simp; (first | done | exact rfl)) ?_
  simp only [List.set_cons_succ, List.set_cons_zero]
  refine lin_done ?_
  intro W22 hx
  replace HS := hid hx
  clear hx
  -- region 14
  go_upto_region 14 with fail
  refine lin_begin (St w [⟨w.heap.size, [some (.int .u64 (tn (x0.A.lo))), some (.int .u64 (tn (x0.A.hi))), some (.int .u64 (tn (x0.B.lo))), some (.int .u64 (tn (x0.B.hi))), some (.int .u64 (tn (x0.V))), some (.int .u64 (tn (x0.W))), some (.int .i64 (ti (x0.N)))], 60⟩, ⟨k1, [some (.int .u64 (tn ((fromP x0.A.lo x0.A.hi).lo))), some (.int .u64 (tn ((fromP x0.A.lo x0.A.hi).hi)))], 24⟩, ⟨k2, [some (.int .u64 (tn ((fromP x0.B.lo x0.B.hi).lo))), some (.int .u64 (tn ((fromP x0.B.lo x0.B.hi).hi)))], 24⟩, ⟨k3, [some (.int .u64 (tn (minU (fromP x0.A.lo x0.A.hi).lo (fromP x0.B.lo x0.B.hi).lo))), some (.int .u64 (tn (maxU (fromP x0.A.lo x0.A.hi).hi (fromP x0.B.lo x0.B.hi).hi)))], 24⟩, ⟨k4, [some (.int .u64 (tn ((fromP x0.A.lo x0.A.hi).lo &&& ~~~(onesV ((fromP x0.A.lo x0.A.hi).lo ^^^ (fromP x0.A.lo x0.A.hi).hi))))), some (.int .u64 (tn (onesV ((fromP x0.A.lo x0.A.hi).lo ^^^ (fromP x0.A.lo x0.A.hi).hi))))], 51⟩, ⟨k5, [some (.int .u64 (tn (x0.V &&& ~~~x1))), some (.int .u64 (tn (x1)))], 51⟩, ⟨k6, [some (.int .u64 (tn ((P.mk (x0.V &&& ~~~x1) x1).lo))), some (.int .u64 (tn ((P.mk (x0.V &&& ~~~x1) x1).lo ||| (P.mk (x0.V &&& ~~~x1) x1).hi)))], 24⟩, ⟨k7, [some (.int .i64 (ti ((span_Sbounds (P.mk (x0.V &&& ~~~x1) x1)).lo))), some (.int .i64 (ti ((span_Sbounds (P.mk (x0.V &&& ~~~x1) x1)).hi)))], 38⟩, ⟨k8, [some (.int .u64 (tn ((P.mk (x0.V &&& ~~~x1) x1).lo))), some (.int .u64 (tn ((P.mk (x0.V &&& ~~~x1) x1).lo ||| (P.mk (x0.V &&& ~~~x1) x1).hi))), some (.int .u64 (tn ((span_Sbounds (P.mk (x0.V &&& ~~~x1) x1)).lo))), some (.int .u64 (tn ((span_Sbounds (P.mk (x0.V &&& ~~~x1) x1)).hi)))], 22⟩]) rfl HS.out ?_
  refine lin_val (i := 0) (v := .pointer (some ⟨k4, 1, none⟩)) rfl rfl (by rfl) (by intro x hx; go_simp; (first | done | exact rfl)) ?_
  simp only [List.set_cons_succ, List.set_cons_zero]
  refine lin_val (i := 1) (v := .int .u64 (tn (onesV ((fromP x0.A.lo x0.A.hi).lo ^^^ (fromP x0.A.lo x0.A.hi).hi)))) rfl rfl (by rfl) (by intro x hx; have f0 := hx.load 4 1 rfl rfl; go_simp; (first | done | exact rfl)) ?_
  simp only [List.set_cons_succ, List.set_cons_zero]
  refine lin_val (i := 2) (v := .bool (((onesV ((fromP x0.A.lo x0.A.hi).lo ^^^ (fromP x0.A.lo x0.A.hi).hi)) != 0#64))) rfl rfl (by rfl) (by intro x hx; go_simp; (first | done | exact neUT (onesV ((fromP x0.A.lo x0.A.hi).lo ^^^ (fromP x0.A.lo x0.A.hi).hi)) 0#64 | exact congrArg _ (neUT (onesV ((fromP x0.A.lo x0.A.hi).lo ^^^ (fromP x0.A.lo x0.A.hi).hi)) 0#64) | (rw [neUT (onesV ((fromP x0.A.lo x0.A.hi).lo ^^^ (fromP x0.A.lo x0.A.hi).hi)) 0#64]; done) | (rw [neUT (onesV ((fromP x0.A.lo x0.A.hi).lo ^^^ (fromP x0.A.lo x0.A.hi).hi)) 0#64]; rfl))) ?_
  simp only [List.set_cons_succ, List.set_cons_zero]
  refine lin_done ?_
  intro W23 hx
  replace HS := hid hx
  clear hx
  cases h1 : (((onesV ((fromP x0.A.lo x0.A.hi).lo ^^^ (fromP x0.A.lo x0.A.hi).hi)) != 0#64))
  · replace h1 := hid h1
    -- region 19
    go_upto_region 19 with fail
    refine lin_begin (St w [⟨w.heap.size, [some (.int .u64 (tn (x0.A.lo))), some (.int .u64 (tn (x0.A.hi))), some (.int .u64 (tn (x0.B.lo))), some (.int .u64 (tn (x0.B.hi))), some (.int .u64 (tn (x0.V))), some (.int .u64 (tn (x0.W))), some (.int .i64 (ti (x0.N)))], 60⟩, ⟨k1, [some (.int .u64 (tn ((fromP x0.A.lo x0.A.hi).lo))), some (.int .u64 (tn ((fromP x0.A.lo x0.A.hi).hi)))], 24⟩, ⟨k2, [some (.int .u64 (tn ((fromP x0.B.lo x0.B.hi).lo))), some (.int .u64 (tn ((fromP x0.B.lo x0.B.hi).hi)))], 24⟩, ⟨k3, [some (.int .u64 (tn (minU (fromP x0.A.lo x0.A.hi).lo (fromP x0.B.lo x0.B.hi).lo))), some (.int .u64 (tn (maxU (fromP x0.A.lo x0.A.hi).hi (fromP x0.B.lo x0.B.hi).hi)))], 24⟩, ⟨k4, [some (.int .u64 (tn ((fromP x0.A.lo x0.A.hi).lo &&& ~~~(onesV ((fromP x0.A.lo x0.A.hi).lo ^^^ (fromP x0.A.lo x0.A.hi).hi))))), some (.int .u64 (tn (onesV ((fromP x0.A.lo x0.A.hi).lo ^^^ (fromP x0.A.lo x0.A.hi).hi))))], 51⟩, ⟨k5, [some (.int .u64 (tn (x0.V &&& ~~~x1))), some (.int .u64 (tn (x1)))], 51⟩, ⟨k6, [some (.int .u64 (tn ((P.mk (x0.V &&& ~~~x1) x1).lo))), some (.int .u64 (tn ((P.mk (x0.V &&& ~~~x1) x1).lo ||| (P.mk (x0.V &&& ~~~x1) x1).hi)))], 24⟩, ⟨k7, [some (.int .i64 (ti ((span_Sbounds (P.mk (x0.V &&& ~~~x1) x1)).lo))), some (.int .i64 (ti ((span_Sbounds (P.mk (x0.V &&& ~~~x1) x1)).hi)))], 38⟩, ⟨k8, [some (.int .u64 (tn ((P.mk (x0.V &&& ~~~x1) x1).lo))), some (.int .u64 (tn ((P.mk (x0.V &&& ~~~x1) x1).lo ||| (P.mk (x0.V &&& ~~~x1) x1).hi))), some (.int .u64 (tn ((span_Sbounds (P.mk (x0.V &&& ~~~x1) x1)).lo))), some (.int .u64 (tn ((span_Sbounds (P.mk (x0.V &&& ~~~x1) x1)).hi)))], 22⟩]) rfl HS.out ?_
    refine lin_val (i := 0) (v := .pointer (some ⟨k3, 0, none⟩)) rfl rfl (by rfl) (by intro x hx; go_simp; (first | done | exact rfl)) ?_
    simp only [List.set_cons_succ, List.set_cons_zero]
    refine lin_val (i := 1) (v := .int .u64 (tn (minU (fromP x0.A.lo x0.A.hi).lo (fromP x0.B.lo x0.B.hi).lo))) rfl rfl (by rfl) (by intro x hx; have f0 := hx.load 3 0 rfl rfl; go_simp; (first | done | exact rfl)) ?_
    simp only [List.set_cons_succ, List.set_cons_zero]
    refine lin_val (i := 2) (v := .pointer (some ⟨k1, 0, none⟩)) rfl rfl (by rfl) (by intro x hx; go_simp; (first | done | exact rfl)) ?_
    simp only [List.set_cons_succ, List.set_cons_zero]
    refine lin_val (i := 3) (v := .int .u64 (tn ((fromP x0.A.lo x0.A.hi).lo))) rfl rfl (by rfl) (by intro x hx; have f0 := hx.load 1 0 rfl rfl; go_simp; (first | done | exact rfl)) ?_
    simp only [List.set_cons_succ, List.set_cons_zero]
    refine lin_val (i := 4) (v := .bool (((minU (fromP x0.A.lo x0.A.hi).lo (fromP x0.B.lo x0.B.hi).lo) == ((fromP x0.A.lo x0.A.hi).lo)))) rfl rfl (by rfl) (by intro x hx; go_simp; (first | done | exact eqUT (minU (fromP x0.A.lo x0.A.hi).lo (fromP x0.B.lo x0.B.hi).lo) ((fromP x0.A.lo x0.A.hi).lo) | exact congrArg _ (eqUT (minU (fromP x0.A.lo x0.A.hi).lo (fromP x0.B.lo x0.B.hi).lo) ((fromP x0.A.lo x0.A.hi).lo)) | (rw [eqUT (minU (fromP x0.A.lo x0.A.hi).lo (fromP x0.B.lo x0.B.hi).lo) ((fromP x0.A.lo x0.A.hi).lo)]; done) | (rw [eqUT (minU (fromP x0.A.lo x0.A.hi).lo (fromP x0.B.lo x0.B.hi).lo) ((fromP x0.A.lo x0.A.hi).lo)]; rfl))) ?_
    simp only [List.set_cons_succ, List.set_cons_zero]
    refine lin_val (i := 5) (v := .bool (((minU (fromP x0.A.lo x0.A.hi).lo (fromP x0.B.lo x0.B.hi).lo) == ((fromP x0.A.lo x0.A.hi).lo)))) rfl rfl (by rfl) (by intro x hx; go_simp; (first | done | exact rfl)) ?_
    simp only [List.set_cons_succ, List.set_cons_zero]
    refine lin_if (i := 6) (v := .pointer (some ⟨k3, 0, none⟩)) (!((minU (fromP x0.A.lo x0.A.hi).lo (fromP x0.B.lo x0.B.hi).lo) == ((fromP x0.A.lo x0.A.hi).lo))) rfl rfl (by generalize ((minU (fromP x0.A.lo x0.A.hi).lo (fromP x0.B.lo x0.B.hi).lo) == ((fromP x0.A.lo x0.A.hi).lo)) = gg0; cases gg0 <;> rfl) (by intro hb; have hb63 := hid (show (((minU (fromP x0.A.lo x0.A.hi).lo (fromP x0.B.lo x0.B.hi).lo) == ((fromP x0.A.lo x0.A.hi).lo))) = false from nnb hb); intro x hx; (try simp only [hb, cond_true]); go_simp; (first | done | exact rfl)) ?_
    simp only [List.set_cons_succ, List.set_cons_zero]
    refine lin_if (i := 7) (v := .int .u64 (tn (minU (fromP x0.A.lo x0.A.hi).lo (fromP x0.B.lo x0.B.hi).lo))) (!((minU (fromP x0.A.lo x0.A.hi).lo (fromP x0.B.lo x0.B.hi).lo) == ((fromP x0.A.lo x0.A.hi).lo))) rfl rfl (by generalize ((minU (fromP x0.A.lo x0.A.hi).lo (fromP x0.B.lo x0.B.hi).lo) == ((fromP x0.A.lo x0.A.hi).lo)) = gg0; cases gg0 <;> rfl) (by intro hb; have hb64 := hid (show (((minU (fromP x0.A.lo x0.A.hi).lo (fromP x0.B.lo x0.B.hi).lo) == ((fromP x0.A.lo x0.A.hi).lo))) = false from nnb hb); intro x hx; (try simp only [hb, cond_true]); have f0 := hx.load 3 0 rfl rfl; go_simp; (first | done | exact rfl)) ?_
    simp only [List.set_cons_succ, List.set_cons_zero]
    refine lin_if (i := 8) (v := .pointer (some ⟨k2, 0, none⟩)) (!((minU (fromP x0.A.lo x0.A.hi).lo (fromP x0.B.lo x0.B.hi).lo) == ((fromP x0.A.lo x0.A.hi).lo))) rfl rfl (by generalize ((minU (fromP x0.A.lo x0.A.hi).lo (fromP x0.B.lo x0.B.hi).lo) == ((fromP x0.A.lo x0.A.hi).lo)) = gg0; cases gg0 <;> rfl) (by intro hb; have hb65 := hid (show (((minU (fromP x0.A.lo x0.A.hi).lo (fromP x0.B.lo x0.B.hi).lo) == ((fromP x0.A.lo x0.A.hi).lo))) = false from nnb hb); intro x hx; (try simp only [hb, cond_true]); go_simp; (first | done | exact rfl)) ?_
    simp only [List.set_cons_succ, List.set_cons_zero]
    refine lin_if (i := 9) (v := .int .u64 (tn ((fromP x0.B.lo x0.B.hi).lo))) (!((minU (fromP x0.A.lo x0.A.hi).lo (fromP x0.B.lo x0.B.hi).lo) == ((fromP x0.A.lo x0.A.hi).lo))) rfl rfl (by generalize ((minU (fromP x0.A.lo x0.A.hi).lo (fromP x0.B.lo x0.B.hi).lo) == ((fromP x0.A.lo x0.A.hi).lo)) = gg0; cases gg0 <;> rfl) (by intro hb; have hb66 := hid (show (((minU (fromP x0.A.lo x0.A.hi).lo (fromP x0.B.lo x0.B.hi).lo) == ((fromP x0.A.lo x0.A.hi).lo))) = false from nnb hb); intro x hx; (try simp only [hb, cond_true]); have f0 := hx.load 2 0 rfl rfl; go_simp; (first | done | exact rfl)) ?_
    simp only [List.set_cons_succ, List.set_cons_zero]
    refine lin_if (i := 10) (v := .bool (((minU (fromP x0.A.lo x0.A.hi).lo (fromP x0.B.lo x0.B.hi).lo) == ((fromP x0.B.lo x0.B.hi).lo)))) (!((minU (fromP x0.A.lo x0.A.hi).lo (fromP x0.B.lo x0.B.hi).lo) == ((fromP x0.A.lo x0.A.hi).lo))) rfl rfl (by generalize ((minU (fromP x0.A.lo x0.A.hi).lo (fromP x0.B.lo x0.B.hi).lo) == ((fromP x0.A.lo x0.A.hi).lo)) = gg0; cases gg0 <;> rfl) (by intro hb; have hb67 := hid (show (((minU (fromP x0.A.lo x0.A.hi).lo (fromP x0.B.lo x0.B.hi).lo) == ((fromP x0.A.lo x0.A.hi).lo))) = false from nnb hb); intro x hx; (try simp only [hb, cond_true]); go_simp; (first | done | exact eqUT (minU (fromP x0.A.lo x0.A.hi).lo (fromP x0.B.lo x0.B.hi).lo) ((fromP x0.B.lo x0.B.hi).lo) | exact congrArg _ (eqUT (minU (fromP x0.A.lo x0.A.hi).lo (fromP x0.B.lo x0.B.hi).lo) ((fromP x0.B.lo x0.B.hi).lo)) | (rw [eqUT (minU (fromP x0.A.lo x0.A.hi).lo (fromP x0.B.lo x0.B.hi).lo) ((fromP x0.B.lo x0.B.hi).lo)]; done) | (rw [eqUT (minU (fromP x0.A.lo x0.A.hi).lo (fromP x0.B.lo x0.B.hi).lo) ((fromP x0.B.lo x0.B.hi).lo)]; rfl))) ?_
    simp only [List.set_cons_succ, List.set_cons_zero]
    refine lin_val (i := 11) (v := .bool ((bif ((minU (fromP x0.A.lo x0.A.hi).lo (fromP x0.B.lo x0.B.hi).lo) == ((fromP x0.A.lo x0.A.hi).lo)) then true else ((minU (fromP x0.A.lo x0.A.hi).lo (fromP x0.B.lo x0.B.hi).lo) == ((fromP x0.B.lo x0.B.hi).lo))))) rfl rfl (by rfl) (by intro x hx; (cases hq : (((minU (fromP x0.A.lo x0.A.hi).lo (fromP x0.B.lo x0.B.hi).lo) == ((fromP x0.A.lo x0.A.hi).lo))) <;> first | rfl | (simp only [hq]; rfl) | simp [hq])) ?_
    simp only [List.set_cons_succ, List.set_cons_zero]
    refine lin_val (i := 12) (v := .bool ((bif ((minU (fromP x0.A.lo x0.A.hi).lo (fromP x0.B.lo x0.B.hi).lo) == ((fromP x0.A.lo x0.A.hi).lo)) then true else ((minU (fromP x0.A.lo x0.A.hi).lo (fromP x0.B.lo x0.B.hi).lo) == ((fromP x0.B.lo x0.B.hi).lo))))) rfl rfl (by rfl) (by intro x hx; go_simp; (first | done | exact rfl)) ?_
    simp only [List.set_cons_succ, List.set_cons_zero]
    rw [show ((bif ((minU (fromP x0.A.lo x0.A.hi).lo (fromP x0.B.lo x0.B.hi).lo) == ((fromP x0.A.lo x0.A.hi).lo)) then true else ((minU (fromP x0.A.lo x0.A.hi).lo (fromP x0.B.lo x0.B.hi).lo) == ((fromP x0.B.lo x0.B.hi).lo)))) = true from min_one _ _]
    refine lin_val (i := 13) (v := .pointer (some ⟨k3, 1, none⟩)) rfl rfl (by rfl) (by intro x hx; go_simp; (first | done | exact rfl)) ?_
    simp only [List.set_cons_succ, List.set_cons_zero]
    refine lin_val (i := 14) (v := .int .u64 (tn (maxU (fromP x0.A.lo x0.A.hi).hi (fromP x0.B.lo x0.B.hi).hi))) rfl rfl (by rfl) (by intro x hx; have f0 := hx.load 3 1 rfl rfl; go_simp; (first | done | exact rfl)) ?_
    simp only [List.set_cons_succ, List.set_cons_zero]
    refine lin_val (i := 15) (v := .pointer (some ⟨k1, 1, none⟩)) rfl rfl (by rfl) (by intro x hx; go_simp; (first | done | exact rfl)) ?_
    simp only [List.set_cons_succ, List.set_cons_zero]
    refine lin_val (i := 16) (v := .int .u64 (tn ((fromP x0.A.lo x0.A.hi).hi))) rfl rfl (by rfl) (by intro x hx; have f0 := hx.load 1 1 rfl rfl; go_simp; (first | done | exact rfl)) ?_
    simp only [List.set_cons_succ, List.set_cons_zero]
    refine lin_val (i := 17) (v := .bool (((maxU (fromP x0.A.lo x0.A.hi).hi (fromP x0.B.lo x0.B.hi).hi) == ((fromP x0.A.lo x0.A.hi).hi)))) rfl rfl (by rfl) (by intro x hx; go_simp; (first | done | exact eqUT (maxU (fromP x0.A.lo x0.A.hi).hi (fromP x0.B.lo x0.B.hi).hi) ((fromP x0.A.lo x0.A.hi).hi) | exact congrArg _ (eqUT (maxU (fromP x0.A.lo x0.A.hi).hi (fromP x0.B.lo x0.B.hi).hi) ((fromP x0.A.lo x0.A.hi).hi)) | (rw [eqUT (maxU (fromP x0.A.lo x0.A.hi).hi (fromP x0.B.lo x0.B.hi).hi) ((fromP x0.A.lo x0.A.hi).hi)]; done) | (rw [eqUT (maxU (fromP x0.A.lo x0.A.hi).hi (fromP x0.B.lo x0.B.hi).hi) ((fromP x0.A.lo x0.A.hi).hi)]; rfl))) ?_
    simp only [List.set_cons_succ, List.set_cons_zero]
    refine lin_val (i := 18) (v := .bool (((maxU (fromP x0.A.lo x0.A.hi).hi (fromP x0.B.lo x0.B.hi).hi) == ((fromP x0.A.lo x0.A.hi).hi)))) rfl rfl (by rfl) (by intro x hx; go_simp; (first | done | exact rfl)) ?_
    simp only [List.set_cons_succ, List.set_cons_zero]
    refine lin_if (i := 19) (v := .pointer (some ⟨k3, 1, none⟩)) (!((maxU (fromP x0.A.lo x0.A.hi).hi (fromP x0.B.lo x0.B.hi).hi) == ((fromP x0.A.lo x0.A.hi).hi))) rfl rfl (by generalize ((maxU (fromP x0.A.lo x0.A.hi).hi (fromP x0.B.lo x0.B.hi).hi) == ((fromP x0.A.lo x0.A.hi).hi)) = gg0; cases gg0 <;> rfl) (by intro hb; have hb68 := hid (show (((maxU (fromP x0.A.lo x0.A.hi).hi (fromP x0.B.lo x0.B.hi).hi) == ((fromP x0.A.lo x0.A.hi).hi))) = false from nnb hb); intro x hx; (try simp only [hb, cond_true]); go_simp; (first | done | exact rfl)) ?_
    simp only [List.set_cons_succ, List.set_cons_zero]
    refine lin_if (i := 20) (v := .int .u64 (tn (maxU (fromP x0.A.lo x0.A.hi).hi (fromP x0.B.lo x0.B.hi).hi))) (!((maxU (fromP x0.A.lo x0.A.hi).hi (fromP x0.B.lo x0.B.hi).hi) == ((fromP x0.A.lo x0.A.hi).hi))) rfl rfl (by generalize ((maxU (fromP x0.A.lo x0.A.hi).hi (fromP x0.B.lo x0.B.hi).hi) == ((fromP x0.A.lo x0.A.hi).hi)) = gg0; cases gg0 <;> rfl) (by intro hb; have hb69 := hid (show (((maxU (fromP x0.A.lo x0.A.hi).hi (fromP x0.B.lo x0.B.hi).hi) == ((fromP x0.A.lo x0.A.hi).hi))) = false from nnb hb); intro x hx; (try simp only [hb, cond_true]); have f0 := hx.load 3 1 rfl rfl; go_simp; (first | done | exact rfl)) ?_
    simp only [List.set_cons_succ, List.set_cons_zero]
    refine lin_if (i := 21) (v := .pointer (some ⟨k2, 1, none⟩)) (!((maxU (fromP x0.A.lo x0.A.hi).hi (fromP x0.B.lo x0.B.hi).hi) == ((fromP x0.A.lo x0.A.hi).hi))) rfl rfl (by generalize ((maxU (fromP x0.A.lo x0.A.hi).hi (fromP x0.B.lo x0.B.hi).hi) == ((fromP x0.A.lo x0.A.hi).hi)) = gg0; cases gg0 <;> rfl) (by intro hb; have hb70 := hid (show (((maxU (fromP x0.A.lo x0.A.hi).hi (fromP x0.B.lo x0.B.hi).hi) == ((fromP x0.A.lo x0.A.hi).hi))) = false from nnb hb); intro x hx; (try simp only [hb, cond_true]); go_simp; (first | done | exact rfl)) ?_
    simp only [List.set_cons_succ, List.set_cons_zero]
    refine lin_if (i := 22) (v := .int .u64 (tn ((fromP x0.B.lo x0.B.hi).hi))) (!((maxU (fromP x0.A.lo x0.A.hi).hi (fromP x0.B.lo x0.B.hi).hi) == ((fromP x0.A.lo x0.A.hi).hi))) rfl rfl (by generalize ((maxU (fromP x0.A.lo x0.A.hi).hi (fromP x0.B.lo x0.B.hi).hi) == ((fromP x0.A.lo x0.A.hi).hi)) = gg0; cases gg0 <;> rfl) (by intro hb; have hb71 := hid (show (((maxU (fromP x0.A.lo x0.A.hi).hi (fromP x0.B.lo x0.B.hi).hi) == ((fromP x0.A.lo x0.A.hi).hi))) = false from nnb hb); intro x hx; (try simp only [hb, cond_true]); have f0 := hx.load 2 1 rfl rfl; go_simp; (first | done | exact rfl)) ?_
    simp only [List.set_cons_succ, List.set_cons_zero]
    refine lin_if (i := 23) (v := .bool (((maxU (fromP x0.A.lo x0.A.hi).hi (fromP x0.B.lo x0.B.hi).hi) == ((fromP x0.B.lo x0.B.hi).hi)))) (!((maxU (fromP x0.A.lo x0.A.hi).hi (fromP x0.B.lo x0.B.hi).hi) == ((fromP x0.A.lo x0.A.hi).hi))) rfl rfl (by generalize ((maxU (fromP x0.A.lo x0.A.hi).hi (fromP x0.B.lo x0.B.hi).hi) == ((fromP x0.A.lo x0.A.hi).hi)) = gg0; cases gg0 <;> rfl) (by intro hb; have hb72 := hid (show (((maxU (fromP x0.A.lo x0.A.hi).hi (fromP x0.B.lo x0.B.hi).hi) == ((fromP x0.A.lo x0.A.hi).hi))) = false from nnb hb); intro x hx; (try simp only [hb, cond_true]); go_simp; (first | done | exact eqUT (maxU (fromP x0.A.lo x0.A.hi).hi (fromP x0.B.lo x0.B.hi).hi) ((fromP x0.B.lo x0.B.hi).hi) | exact congrArg _ (eqUT (maxU (fromP x0.A.lo x0.A.hi).hi (fromP x0.B.lo x0.B.hi).hi) ((fromP x0.B.lo x0.B.hi).hi)) | (rw [eqUT (maxU (fromP x0.A.lo x0.A.hi).hi (fromP x0.B.lo x0.B.hi).hi) ((fromP x0.B.lo x0.B.hi).hi)]; done) | (rw [eqUT (maxU (fromP x0.A.lo x0.A.hi).hi (fromP x0.B.lo x0.B.hi).hi) ((fromP x0.B.lo x0.B.hi).hi)]; rfl))) ?_
    simp only [List.set_cons_succ, List.set_cons_zero]
    refine lin_val (i := 24) (v := .bool ((bif ((maxU (fromP x0.A.lo x0.A.hi).hi (fromP x0.B.lo x0.B.hi).hi) == ((fromP x0.A.lo x0.A.hi).hi)) then true else ((maxU (fromP x0.A.lo x0.A.hi).hi (fromP x0.B.lo x0.B.hi).hi) == ((fromP x0.B.lo x0.B.hi).hi))))) rfl rfl (by rfl) (by intro x hx; (cases hq : (((maxU (fromP x0.A.lo x0.A.hi).hi (fromP x0.B.lo x0.B.hi).hi) == ((fromP x0.A.lo x0.A.hi).hi))) <;> first | rfl | (simp only [hq]; rfl) | simp [hq])) ?_
    simp only [List.set_cons_succ, List.set_cons_zero]
    refine lin_val (i := 25) (v := .bool ((bif ((maxU (fromP x0.A.lo x0.A.hi).hi (fromP x0.B.lo x0.B.hi).hi) == ((fromP x0.A.lo x0.A.hi).hi)) then true else ((maxU (fromP x0.A.lo x0.A.hi).hi (fromP x0.B.lo x0.B.hi).hi) == ((fromP x0.B.lo x0.B.hi).hi))))) rfl rfl (by rfl) (by intro x hx; go_simp; (first | done | exact rfl)) ?_
    simp only [List.set_cons_succ, List.set_cons_zero]
    refine lin_val (i := 26) (v := .bool ((bif ((maxU (fromP x0.A.lo x0.A.hi).hi (fromP x0.B.lo x0.B.hi).hi) == ((fromP x0.A.lo x0.A.hi).hi)) then true else ((maxU (fromP x0.A.lo x0.A.hi).hi (fromP x0.B.lo x0.B.hi).hi) == ((fromP x0.B.lo x0.B.hi).hi))))) rfl rfl (by rfl) (by intro x hx; go_simp; (first | done | exact rfl)) ?_
    simp only [List.set_cons_succ, List.set_cons_zero]
    rw [show ((bif ((maxU (fromP x0.A.lo x0.A.hi).hi (fromP x0.B.lo x0.B.hi).hi) == ((fromP x0.A.lo x0.A.hi).hi)) then true else ((maxU (fromP x0.A.lo x0.A.hi).hi (fromP x0.B.lo x0.B.hi).hi) == ((fromP x0.B.lo x0.B.hi).hi)))) = true from max_one _ _]
    refine lin_val (i := 27) (v := .pointer (some ⟨k4, 0, none⟩)) rfl rfl (by rfl) (by intro x hx; go_simp; (first | done | exact rfl)) ?_
    simp only [List.set_cons_succ, List.set_cons_zero]
    refine lin_val (i := 28) (v := .int .u64 (tn ((fromP x0.A.lo x0.A.hi).lo &&& ~~~(onesV ((fromP x0.A.lo x0.A.hi).lo ^^^ (fromP x0.A.lo x0.A.hi).hi))))) rfl rfl (by rfl) (by intro x hx; have f0 := hx.load 4 0 rfl rfl; go_simp; (first | done | exact rfl)) ?_
    simp only [List.set_cons_succ, List.set_cons_zero]
    refine lin_val (i := 29) (v := .pointer (some ⟨k4, 1, none⟩)) rfl rfl (by rfl) (by intro x hx; go_simp; (first | done | exact rfl)) ?_
    simp only [List.set_cons_succ, List.set_cons_zero]
    refine lin_val (i := 30) (v := .int .u64 (tn (onesV ((fromP x0.A.lo x0.A.hi).lo ^^^ (fromP x0.A.lo x0.A.hi).hi)))) rfl rfl (by rfl) (by intro x hx; have f0 := hx.load 4 1 rfl rfl; go_simp; (first | done | exact rfl)) ?_
    simp only [List.set_cons_succ, List.set_cons_zero]
    refine lin_val (i := 31) (v := .int .u64 (tn (((fromP x0.A.lo x0.A.hi).lo &&& ~~~(onesV ((fromP x0.A.lo x0.A.hi).lo ^^^ (fromP x0.A.lo x0.A.hi).hi))) &&& (onesV ((fromP x0.A.lo x0.A.hi).lo ^^^ (fromP x0.A.lo x0.A.hi).hi))))) rfl rfl (by rfl) (by intro x hx; go_simp; (first | done | exact andUT ((fromP x0.A.lo x0.A.hi).lo &&& ~~~(onesV ((fromP x0.A.lo x0.A.hi).lo ^^^ (fromP x0.A.lo x0.A.hi).hi))) (onesV ((fromP x0.A.lo x0.A.hi).lo ^^^ (fromP x0.A.lo x0.A.hi).hi)) | exact congrArg _ (andUT ((fromP x0.A.lo x0.A.hi).lo &&& ~~~(onesV ((fromP x0.A.lo x0.A.hi).lo ^^^ (fromP x0.A.lo x0.A.hi).hi))) (onesV ((fromP x0.A.lo x0.A.hi).lo ^^^ (fromP x0.A.lo x0.A.hi).hi))) | (rw [andUT ((fromP x0.A.lo x0.A.hi).lo &&& ~~~(onesV ((fromP x0.A.lo x0.A.hi).lo ^^^ (fromP x0.A.lo x0.A.hi).hi))) (onesV ((fromP x0.A.lo x0.A.hi).lo ^^^ (fromP x0.A.lo x0.A.hi).hi))]; done) | (rw [andUT ((fromP x0.A.lo x0.A.hi).lo &&& ~~~(onesV ((fromP x0.A.lo x0.A.hi).lo ^^^ (fromP x0.A.lo x0.A.hi).hi))) (onesV ((fromP x0.A.lo x0.A.hi).lo ^^^ (fromP x0.A.lo x0.A.hi).hi))]; rfl))) ?_
    simp only [List.set_cons_succ, List.set_cons_zero]
    refine lin_val (i := 32) (v := .bool true) rfl rfl (by rfl) (by intro x hx; go_simp; (first | done | (first | exact beq_iff_eq.2 (clear_and _ _) | exact eq_of_beq (beq_iff_eq.2 (clear_and _ _)) | exact congrArg _ (beq_iff_eq.2 (clear_and _ _)) | (rw [beq_iff_eq.2 (clear_and _ _)]; done) | ((first | rfl | exact eqUT (((fromP x0.A.lo x0.A.hi).lo &&& ~~~(onesV ((fromP x0.A.lo x0.A.hi).lo ^^^ (fromP x0.A.lo x0.A.hi).hi))) &&& (onesV ((fromP x0.A.lo x0.A.hi).lo ^^^ (fromP x0.A.lo x0.A.hi).hi))) 0#64 | exact congrArg _ (eqUT (((fromP x0.A.lo x0.A.hi).lo &&& ~~~(onesV ((fromP x0.A.lo x0.A.hi).lo ^^^ (fromP x0.A.lo x0.A.hi).hi))) &&& (onesV ((fromP x0.A.lo x0.A.hi).lo ^^^ (fromP x0.A.lo x0.A.hi).hi))) 0#64) | (rw [eqUT (((fromP x0.A.lo x0.A.hi).lo &&& ~~~(onesV ((fromP x0.A.lo x0.A.hi).lo ^^^ (fromP x0.A.lo x0.A.hi).hi))) &&& (onesV ((fromP x0.A.lo x0.A.hi).lo ^^^ (fromP x0.A.lo x0.A.hi).hi))) 0#64]; done) | (rw [eqUT (((fromP x0.A.lo x0.A.hi).lo &&& ~~~(onesV ((fromP x0.A.lo x0.A.hi).lo ^^^ (fromP x0.A.lo x0.A.hi).hi))) &&& (onesV ((fromP x0.A.lo x0.A.hi).lo ^^^ (fromP x0.A.lo x0.A.hi).hi))) 0#64]; rfl)); rw [beq_iff_eq.2 (clear_and _ _)]) | exact congrArg tn (eq_of_beq (beq_iff_eq.2 (clear_and _ _))) | exact congrArg ti (eq_of_beq (beq_iff_eq.2 (clear_and _ _))) | exact congrArg tn (eq_of_bne (beq_iff_eq.2 (clear_and _ _))) | simpa using (beq_iff_eq.2 (clear_and _ _))))) ?_
    simp only [List.set_cons_succ, List.set_cons_zero]
    refine lin_val (i := 33) (v := .bool true) rfl rfl (by rfl) (by intro x hx; go_simp; (first | done | exact rfl)) ?_
    simp only [List.set_cons_succ, List.set_cons_zero]
    refine lin_val (i := 34) (v := .bool true) rfl rfl (by rfl) (by intro x hx; go_simp; (first | done | exact rfl)) ?_
    simp only [List.set_cons_succ, List.set_cons_zero]
    refine lin_val (i := 35) (v := .pointer (some ⟨k4, 1, none⟩)) rfl rfl (by rfl) (by intro x hx; go_simp; (first | done | exact rfl)) ?_
    simp only [List.set_cons_succ, List.set_cons_zero]
    refine lin_val (i := 36) (v := .int .u64 (tn (onesV ((fromP x0.A.lo x0.A.hi).lo ^^^ (fromP x0.A.lo x0.A.hi).hi)))) rfl rfl (by rfl) (by intro x hx; have f0 := hx.load 4 1 rfl rfl; go_simp; (first | done | exact rfl)) ?_
    simp only [List.set_cons_succ, List.set_cons_zero]
    refine lin_val (i := 37) (v := .bool (((onesV ((fromP x0.A.lo x0.A.hi).lo ^^^ (fromP x0.A.lo x0.A.hi).hi)) != 0#64))) rfl rfl (by rfl) (by intro x hx; go_simp; (first | done | exact neUT (onesV ((fromP x0.A.lo x0.A.hi).lo ^^^ (fromP x0.A.lo x0.A.hi).hi)) 0#64 | exact congrArg _ (neUT (onesV ((fromP x0.A.lo x0.A.hi).lo ^^^ (fromP x0.A.lo x0.A.hi).hi)) 0#64) | (rw [neUT (onesV ((fromP x0.A.lo x0.A.hi).lo ^^^ (fromP x0.A.lo x0.A.hi).hi)) 0#64]; done) | (rw [neUT (onesV ((fromP x0.A.lo x0.A.hi).lo ^^^ (fromP x0.A.lo x0.A.hi).hi)) 0#64]; rfl))) ?_
    simp only [List.set_cons_succ, List.set_cons_zero]
    refine lin_val (i := 38) (v := .bool (((onesV ((fromP x0.A.lo x0.A.hi).lo ^^^ (fromP x0.A.lo x0.A.hi).hi)) != 0#64))) rfl rfl (by rfl) (by intro x hx; go_simp; (first | done | exact rfl)) ?_
    simp only [List.set_cons_succ, List.set_cons_zero]
    rw [show (((onesV ((fromP x0.A.lo x0.A.hi).lo ^^^ (fromP x0.A.lo x0.A.hi).hi)) != 0#64)) = false from h1.out]
    refine lin_val (i := 39) (v := .pointer (some ⟨k1, 0, none⟩)) rfl rfl (by rfl) (by intro x hx; go_simp; (first | done | exact rfl)) ?_
    simp only [List.set_cons_succ, List.set_cons_zero]
    refine lin_val (i := 40) (v := .int .u64 (tn ((fromP x0.A.lo x0.A.hi).lo))) rfl rfl (by rfl) (by intro x hx; have f0 := hx.load 1 0 rfl rfl; go_simp; (first | done | exact rfl)) ?_
    simp only [List.set_cons_succ, List.set_cons_zero]
    refine lin_val (i := 41) (v := .pointer (some ⟨k1, 1, none⟩)) rfl rfl (by rfl) (by intro x hx; go_simp; (first | done | exact rfl)) ?_
    simp only [List.set_cons_succ, List.set_cons_zero]
    refine lin_val (i := 42) (v := .int .u64 (tn ((fromP x0.A.lo x0.A.hi).hi))) rfl rfl (by rfl) (by intro x hx; have f0 := hx.load 1 1 rfl rfl; go_simp; (first | done | exact rfl)) ?_
    simp only [List.set_cons_succ, List.set_cons_zero]
    refine lin_val (i := 43) (v := .bool true) rfl rfl (by rfl) (by intro x hx; go_simp; (first | done | (first | exact beq_iff_eq.2 (mask_zero HLA.out h1.out) | exact eq_of_beq (beq_iff_eq.2 (mask_zero HLA.out h1.out)) | exact congrArg _ (beq_iff_eq.2 (mask_zero HLA.out h1.out)) | (rw [beq_iff_eq.2 (mask_zero HLA.out h1.out)]; done) | ((first | rfl | exact eqUT ((fromP x0.A.lo x0.A.hi).lo) ((fromP x0.A.lo x0.A.hi).hi) | exact congrArg _ (eqUT ((fromP x0.A.lo x0.A.hi).lo) ((fromP x0.A.lo x0.A.hi).hi)) | (rw [eqUT ((fromP x0.A.lo x0.A.hi).lo) ((fromP x0.A.lo x0.A.hi).hi)]; done) | (rw [eqUT ((fromP x0.A.lo x0.A.hi).lo) ((fromP x0.A.lo x0.A.hi).hi)]; rfl)); rw [beq_iff_eq.2 (mask_zero HLA.out h1.out)]) | exact congrArg tn (eq_of_beq (beq_iff_eq.2 (mask_zero HLA.out h1.out))) | exact congrArg ti (eq_of_beq (beq_iff_eq.2 (mask_zero HLA.out h1.out))) | exact congrArg tn (eq_of_bne (beq_iff_eq.2 (mask_zero HLA.out h1.out))) | simpa using (beq_iff_eq.2 (mask_zero HLA.out h1.out))))) ?_
    simp only [List.set_cons_succ, List.set_cons_zero]
    refine lin_val (i := 44) (v := .bool true) rfl rfl (by rfl) (by intro x hx; go_simp; (first | done | exact rfl)) ?_
    simp only [List.set_cons_succ, List.set_cons_zero]
    refine lin_val (i := 45) (v := .bool true) rfl rfl (by rfl) (by intro x hx; go_simp; (first | done | exact rfl)) ?_
    simp only [List.set_cons_succ, List.set_cons_zero]
    refine lin_val (i := 46) (v := .bool true) rfl rfl (by rfl) (by intro x hx; go_simp; (first | done | exact rfl)) ?_
    simp only [List.set_cons_succ, List.set_cons_zero]
    refine lin_val (i := 47) (v := .agg #[.int .u64 (tn ((fromP x0.A.lo x0.A.hi).lo)), .int .u64 (tn ((fromP x0.A.lo x0.A.hi).hi))]) rfl rfl (by rfl) (by intro x hx; have f0 := hx.load 1 0 rfl rfl; have f1 := hx.load 1 1 rfl rfl; go_simp; (first | done | exact rfl)) ?_
    simp only [List.set_cons_succ, List.set_cons_zero]
    refine lin_val (i := 48) (v := .agg #[.int .u64 (tn (minU (fromP x0.A.lo x0.A.hi).lo (fromP x0.B.lo x0.B.hi).lo)), .int .u64 (tn (maxU (fromP x0.A.lo x0.A.hi).hi (fromP x0.B.lo x0.B.hi).hi))]) rfl rfl (by rfl) (by intro x hx; have f0 := hx.load 3 0 rfl rfl; have f1 := hx.load 3 1 rfl rfl; go_simp; (first | done | exact rfl)) ?_
    simp only [List.set_cons_succ, List.set_cons_zero]
    refine lin_call (i := 49) (f := 21) (args := #[.agg #[.int .u64 (tn ((fromP x0.A.lo x0.A.hi).lo)), .int .u64 (tn ((fromP x0.A.lo x0.A.hi).hi))], .agg #[.int .u64 (tn (minU (fromP x0.A.lo x0.A.hi).lo (fromP x0.B.lo x0.B.hi).lo)), .int .u64 (tn (maxU (fromP x0.A.lo x0.A.hi).hi (fromP x0.B.lo x0.B.hi).hi))]]) (v := .bool true) (st_ups _ _) rfl rfl (by rfl) (fun x hx => by kernel_rfl) (by intro x hx; exact calls_is (span_Within_any (fromP x0.A.lo x0.A.hi) (P.mk (minU (fromP x0.A.lo x0.A.hi).lo (fromP x0.B.lo x0.B.hi).lo) (maxU (fromP x0.A.lo x0.A.hi).hi (fromP x0.B.lo x0.B.hi).hi)) _) (congrArg Value.bool (within_of (join_l _ _)))) ?_
    simp only [List.set_cons_succ, List.set_cons_zero]
    refine lin_val (i := 50) (v := .bool true) rfl rfl (by rfl) (by intro x hx; go_simp; (first | done | exact rfl)) ?_
    simp only [List.set_cons_succ, List.set_cons_zero]
    refine lin_val (i := 51) (v := .bool true) rfl rfl (by rfl) (by intro x hx; go_simp; (first | done | exact rfl)) ?_
    simp only [List.set_cons_succ, List.set_cons_zero]
    refine lin_val (i := 52) (v := .agg #[.int .u64 (tn ((fromP x0.B.lo x0.B.hi).lo)), .int .u64 (tn ((fromP x0.B.lo x0.B.hi).hi))]) rfl rfl (by rfl) (by intro x hx; have f0 := hx.load 2 0 rfl rfl; have f1 := hx.load 2 1 rfl rfl; go_simp; (first | done | exact rfl)) ?_
    simp only [List.set_cons_succ, List.set_cons_zero]
    refine lin_val (i := 53) (v := .agg #[.int .u64 (tn (minU (fromP x0.A.lo x0.A.hi).lo (fromP x0.B.lo x0.B.hi).lo)), .int .u64 (tn (maxU (fromP x0.A.lo x0.A.hi).hi (fromP x0.B.lo x0.B.hi).hi))]) rfl rfl (by rfl) (by intro x hx; have f0 := hx.load 3 0 rfl rfl; have f1 := hx.load 3 1 rfl rfl; go_simp; (first | done | exact rfl)) ?_
    simp only [List.set_cons_succ, List.set_cons_zero]
    refine lin_call (i := 54) (f := 21) (args := #[.agg #[.int .u64 (tn ((fromP x0.B.lo x0.B.hi).lo)), .int .u64 (tn ((fromP x0.B.lo x0.B.hi).hi))], .agg #[.int .u64 (tn (minU (fromP x0.A.lo x0.A.hi).lo (fromP x0.B.lo x0.B.hi).lo)), .int .u64 (tn (maxU (fromP x0.A.lo x0.A.hi).hi (fromP x0.B.lo x0.B.hi).hi))]]) (v := .bool true) (st_ups _ _) rfl rfl (by rfl) (fun x hx => by kernel_rfl) (by intro x hx; exact calls_is (span_Within_any (fromP x0.B.lo x0.B.hi) (P.mk (minU (fromP x0.A.lo x0.A.hi).lo (fromP x0.B.lo x0.B.hi).lo) (maxU (fromP x0.A.lo x0.A.hi).hi (fromP x0.B.lo x0.B.hi).hi)) _) (congrArg Value.bool (within_of (join_r _ _)))) ?_
    simp only [List.set_cons_succ, List.set_cons_zero]
    refine lin_val (i := 55) (v := .bool true) rfl rfl (by rfl) (by intro x hx; go_simp; (first | done | exact rfl)) ?_
    simp only [List.set_cons_succ, List.set_cons_zero]
    refine lin_val (i := 56) (v := .bool true) rfl rfl (by rfl) (by intro x hx; go_simp; (first | done | exact rfl)) ?_
    simp only [List.set_cons_succ, List.set_cons_zero]
    refine lin_call (i := 57) (f := 12) (args := #[]) (v := .bool true) (st_ups _ _) rfl rfl (by rfl) (fun x hx => by kernel_rfl) (by intro x hx; exact law_known_any _) ?_
    simp only [List.set_cons_succ, List.set_cons_zero]
    refine lin_val (i := 58) (v := .bool true) rfl rfl (by rfl) (by intro x hx; go_simp; (first | done | exact rfl)) ?_
    simp only [List.set_cons_succ, List.set_cons_zero]
    refine lin_val (i := 59) (v := .bool true) rfl rfl (by rfl) (by intro x hx; go_simp; (first | done | exact rfl)) ?_
    simp only [List.set_cons_succ, List.set_cons_zero]
    refine lin_done ?_
    intro W24 hx
    replace HS := hid hx
    clear hx
    go_wp2
    exact bodyPost_ret (v := .bool true) (by simp [results, Try.results9, go_sem]) rfl ⟨rfl, HS.out.below⟩
  · replace h1 := hid h1
    -- region 15
    go_upto_region 15 with fail
    refine lin_begin (St w [⟨w.heap.size, [some (.int .u64 (tn (x0.A.lo))), some (.int .u64 (tn (x0.A.hi))), some (.int .u64 (tn (x0.B.lo))), some (.int .u64 (tn (x0.B.hi))), some (.int .u64 (tn (x0.V))), some (.int .u64 (tn (x0.W))), some (.int .i64 (ti (x0.N)))], 60⟩, ⟨k1, [some (.int .u64 (tn ((fromP x0.A.lo x0.A.hi).lo))), some (.int .u64 (tn ((fromP x0.A.lo x0.A.hi).hi)))], 24⟩, ⟨k2, [some (.int .u64 (tn ((fromP x0.B.lo x0.B.hi).lo))), some (.int .u64 (tn ((fromP x0.B.lo x0.B.hi).hi)))], 24⟩, ⟨k3, [some (.int .u64 (tn (minU (fromP x0.A.lo x0.A.hi).lo (fromP x0.B.lo x0.B.hi).lo))), some (.int .u64 (tn (maxU (fromP x0.A.lo x0.A.hi).hi (fromP x0.B.lo x0.B.hi).hi)))], 24⟩, ⟨k4, [some (.int .u64 (tn ((fromP x0.A.lo x0.A.hi).lo &&& ~~~(onesV ((fromP x0.A.lo x0.A.hi).lo ^^^ (fromP x0.A.lo x0.A.hi).hi))))), some (.int .u64 (tn (onesV ((fromP x0.A.lo x0.A.hi).lo ^^^ (fromP x0.A.lo x0.A.hi).hi))))], 51⟩, ⟨k5, [some (.int .u64 (tn (x0.V &&& ~~~x1))), some (.int .u64 (tn (x1)))], 51⟩, ⟨k6, [some (.int .u64 (tn ((P.mk (x0.V &&& ~~~x1) x1).lo))), some (.int .u64 (tn ((P.mk (x0.V &&& ~~~x1) x1).lo ||| (P.mk (x0.V &&& ~~~x1) x1).hi)))], 24⟩, ⟨k7, [some (.int .i64 (ti ((span_Sbounds (P.mk (x0.V &&& ~~~x1) x1)).lo))), some (.int .i64 (ti ((span_Sbounds (P.mk (x0.V &&& ~~~x1) x1)).hi)))], 38⟩, ⟨k8, [some (.int .u64 (tn ((P.mk (x0.V &&& ~~~x1) x1).lo))), some (.int .u64 (tn ((P.mk (x0.V &&& ~~~x1) x1).lo ||| (P.mk (x0.V &&& ~~~x1) x1).hi))), some (.int .u64 (tn ((span_Sbounds (P.mk (x0.V &&& ~~~x1) x1)).lo))), some (.int .u64 (tn ((span_Sbounds (P.mk (x0.V &&& ~~~x1) x1)).hi)))], 22⟩]) rfl HS.out ?_
    refine lin_val (i := 0) (v := .pointer (some ⟨k4, 1, none⟩)) rfl rfl (by rfl) (by intro x hx; go_simp; (first | done | exact rfl)) ?_
    simp only [List.set_cons_succ, List.set_cons_zero]
    refine lin_val (i := 1) (v := .int .u64 (tn (onesV ((fromP x0.A.lo x0.A.hi).lo ^^^ (fromP x0.A.lo x0.A.hi).hi)))) rfl rfl (by rfl) (by intro x hx; have f0 := hx.load 4 1 rfl rfl; go_simp; (first | done | exact rfl)) ?_
    simp only [List.set_cons_succ, List.set_cons_zero]
    refine lin_val (i := 2) (v := .pointer (some ⟨k4, 1, none⟩)) rfl rfl (by rfl) (by intro x hx; go_simp; (first | done | exact rfl)) ?_
    simp only [List.set_cons_succ, List.set_cons_zero]
    refine lin_val (i := 3) (v := .int .u64 (tn (onesV ((fromP x0.A.lo x0.A.hi).lo ^^^ (fromP x0.A.lo x0.A.hi).hi)))) rfl rfl (by rfl) (by intro x hx; have f0 := hx.load 4 1 rfl rfl; go_simp; (first | done | exact rfl)) ?_
    simp only [List.set_cons_succ, List.set_cons_zero]
    refine lin_val (i := 4) (v := .int .u64 (tn ((onesV ((fromP x0.A.lo x0.A.hi).lo ^^^ (fromP x0.A.lo x0.A.hi).hi)) >>> (1#64).toNat))) rfl rfl (by rfl) (by intro x hx; have hy := tn_lo 1#64; go_simp; (first | done | exact shrUU (onesV ((fromP x0.A.lo x0.A.hi).lo ^^^ (fromP x0.A.lo x0.A.hi).hi)) 1#64 hy | exact congrArg _ (shrUU (onesV ((fromP x0.A.lo x0.A.hi).lo ^^^ (fromP x0.A.lo x0.A.hi).hi)) 1#64 hy) | (rw [shrUU (onesV ((fromP x0.A.lo x0.A.hi).lo ^^^ (fromP x0.A.lo x0.A.hi).hi)) 1#64 hy]; done) | (rw [shrUU (onesV ((fromP x0.A.lo x0.A.hi).lo ^^^ (fromP x0.A.lo x0.A.hi).hi)) 1#64 hy]; rfl))) ?_
    simp only [List.set_cons_succ, List.set_cons_zero]
    refine lin_val (i := 5) (v := .int .u64 (tn ((onesV ((fromP x0.A.lo x0.A.hi).lo ^^^ (fromP x0.A.lo x0.A.hi).hi)) - ((onesV ((fromP x0.A.lo x0.A.hi).lo ^^^ (fromP x0.A.lo x0.A.hi).hi)) >>> (1#64).toNat)))) rfl rfl (by rfl) (by intro x hx; go_simp; (first | done | exact subUT (onesV ((fromP x0.A.lo x0.A.hi).lo ^^^ (fromP x0.A.lo x0.A.hi).hi)) ((onesV ((fromP x0.A.lo x0.A.hi).lo ^^^ (fromP x0.A.lo x0.A.hi).hi)) >>> (1#64).toNat) | exact congrArg _ (subUT (onesV ((fromP x0.A.lo x0.A.hi).lo ^^^ (fromP x0.A.lo x0.A.hi).hi)) ((onesV ((fromP x0.A.lo x0.A.hi).lo ^^^ (fromP x0.A.lo x0.A.hi).hi)) >>> (1#64).toNat)) | (rw [subUT (onesV ((fromP x0.A.lo x0.A.hi).lo ^^^ (fromP x0.A.lo x0.A.hi).hi)) ((onesV ((fromP x0.A.lo x0.A.hi).lo ^^^ (fromP x0.A.lo x0.A.hi).hi)) >>> (1#64).toNat)]; done) | (rw [subUT (onesV ((fromP x0.A.lo x0.A.hi).lo ^^^ (fromP x0.A.lo x0.A.hi).hi)) ((onesV ((fromP x0.A.lo x0.A.hi).lo ^^^ (fromP x0.A.lo x0.A.hi).hi)) >>> (1#64).toNat)]; rfl))) ?_
    simp only [List.set_cons_succ, List.set_cons_zero]
    refine lin_val (i := 6) (v := .int .u64 (tn ((onesV ((fromP x0.A.lo x0.A.hi).lo ^^^ (fromP x0.A.lo x0.A.hi).hi)) - ((onesV ((fromP x0.A.lo x0.A.hi).lo ^^^ (fromP x0.A.lo x0.A.hi).hi)) >>> (1#64).toNat)))) rfl rfl (by rfl) (by intro x hx; go_simp; (first | done | exact rfl)) ?_
    simp only [List.set_cons_succ, List.set_cons_zero]
    refine lin_done ?_
    intro W24 hx
    replace HS := hid hx
    clear hx
    -- region 16
    go_upto_region 16 with fail
    refine lin_begin (St w [⟨w.heap.size, [some (.int .u64 (tn (x0.A.lo))), some (.int .u64 (tn (x0.A.hi))), some (.int .u64 (tn (x0.B.lo))), some (.int .u64 (tn (x0.B.hi))), some (.int .u64 (tn (x0.V))), some (.int .u64 (tn (x0.W))), some (.int .i64 (ti (x0.N)))], 60⟩, ⟨k1, [some (.int .u64 (tn ((fromP x0.A.lo x0.A.hi).lo))), some (.int .u64 (tn ((fromP x0.A.lo x0.A.hi).hi)))], 24⟩, ⟨k2, [some (.int .u64 (tn ((fromP x0.B.lo x0.B.hi).lo))), some (.int .u64 (tn ((fromP x0.B.lo x0.B.hi).hi)))], 24⟩, ⟨k3, [some (.int .u64 (tn (minU (fromP x0.A.lo x0.A.hi).lo (fromP x0.B.lo x0.B.hi).lo))), some (.int .u64 (tn (maxU (fromP x0.A.lo x0.A.hi).hi (fromP x0.B.lo x0.B.hi).hi)))], 24⟩, ⟨k4, [some (.int .u64 (tn ((fromP x0.A.lo x0.A.hi).lo &&& ~~~(onesV ((fromP x0.A.lo x0.A.hi).lo ^^^ (fromP x0.A.lo x0.A.hi).hi))))), some (.int .u64 (tn (onesV ((fromP x0.A.lo x0.A.hi).lo ^^^ (fromP x0.A.lo x0.A.hi).hi))))], 51⟩, ⟨k5, [some (.int .u64 (tn (x0.V &&& ~~~x1))), some (.int .u64 (tn (x1)))], 51⟩, ⟨k6, [some (.int .u64 (tn ((P.mk (x0.V &&& ~~~x1) x1).lo))), some (.int .u64 (tn ((P.mk (x0.V &&& ~~~x1) x1).lo ||| (P.mk (x0.V &&& ~~~x1) x1).hi)))], 24⟩, ⟨k7, [some (.int .i64 (ti ((span_Sbounds (P.mk (x0.V &&& ~~~x1) x1)).lo))), some (.int .i64 (ti ((span_Sbounds (P.mk (x0.V &&& ~~~x1) x1)).hi)))], 38⟩, ⟨k8, [some (.int .u64 (tn ((P.mk (x0.V &&& ~~~x1) x1).lo))), some (.int .u64 (tn ((P.mk (x0.V &&& ~~~x1) x1).lo ||| (P.mk (x0.V &&& ~~~x1) x1).hi))), some (.int .u64 (tn ((span_Sbounds (P.mk (x0.V &&& ~~~x1) x1)).lo))), some (.int .u64 (tn ((span_Sbounds (P.mk (x0.V &&& ~~~x1) x1)).hi)))], 22⟩]) rfl HS.out ?_
    refine lin_val (i := 0) (v := .pointer (some ⟨k4, 0, none⟩)) rfl rfl (by rfl) (by intro x hx; go_simp; (first | done | exact rfl)) ?_
    simp only [List.set_cons_succ, List.set_cons_zero]
    refine lin_val (i := 1) (v := .int .u64 (tn ((fromP x0.A.lo x0.A.hi).lo &&& ~~~(onesV ((fromP x0.A.lo x0.A.hi).lo ^^^ (fromP x0.A.lo x0.A.hi).hi))))) rfl rfl (by rfl) (by intro x hx; have f0 := hx.load 4 0 rfl rfl; go_simp; (first | done | exact rfl)) ?_
    simp only [List.set_cons_succ, List.set_cons_zero]
    refine lin_val (i := 2) (v := .int .u64 (tn ((onesV ((fromP x0.A.lo x0.A.hi).lo ^^^ (fromP x0.A.lo x0.A.hi).hi)) - ((onesV ((fromP x0.A.lo x0.A.hi).lo ^^^ (fromP x0.A.lo x0.A.hi).hi)) >>> (1#64).toNat)))) rfl rfl (by rfl) (by intro x hx; go_simp; (first | done | exact rfl)) ?_
    simp only [List.set_cons_succ, List.set_cons_zero]
    refine lin_val (i := 3) (v := .int .u64 (tn (((fromP x0.A.lo x0.A.hi).lo &&& ~~~(onesV ((fromP x0.A.lo x0.A.hi).lo ^^^ (fromP x0.A.lo x0.A.hi).hi))) ||| ((onesV ((fromP x0.A.lo x0.A.hi).lo ^^^ (fromP x0.A.lo x0.A.hi).hi)) - ((onesV ((fromP x0.A.lo x0.A.hi).lo ^^^ (fromP x0.A.lo x0.A.hi).hi)) >>> (1#64).toNat))))) rfl rfl (by rfl) (by intro x hx; go_simp; (first | done | exact orUT ((fromP x0.A.lo x0.A.hi).lo &&& ~~~(onesV ((fromP x0.A.lo x0.A.hi).lo ^^^ (fromP x0.A.lo x0.A.hi).hi))) ((onesV ((fromP x0.A.lo x0.A.hi).lo ^^^ (fromP x0.A.lo x0.A.hi).hi)) - ((onesV ((fromP x0.A.lo x0.A.hi).lo ^^^ (fromP x0.A.lo x0.A.hi).hi)) >>> (1#64).toNat)) | exact congrArg _ (orUT ((fromP x0.A.lo x0.A.hi).lo &&& ~~~(onesV ((fromP x0.A.lo x0.A.hi).lo ^^^ (fromP x0.A.lo x0.A.hi).hi))) ((onesV ((fromP x0.A.lo x0.A.hi).lo ^^^ (fromP x0.A.lo x0.A.hi).hi)) - ((onesV ((fromP x0.A.lo x0.A.hi).lo ^^^ (fromP x0.A.lo x0.A.hi).hi)) >>> (1#64).toNat))) | (rw [orUT ((fromP x0.A.lo x0.A.hi).lo &&& ~~~(onesV ((fromP x0.A.lo x0.A.hi).lo ^^^ (fromP x0.A.lo x0.A.hi).hi))) ((onesV ((fromP x0.A.lo x0.A.hi).lo ^^^ (fromP x0.A.lo x0.A.hi).hi)) - ((onesV ((fromP x0.A.lo x0.A.hi).lo ^^^ (fromP x0.A.lo x0.A.hi).hi)) >>> (1#64).toNat))]; done) | (rw [orUT ((fromP x0.A.lo x0.A.hi).lo &&& ~~~(onesV ((fromP x0.A.lo x0.A.hi).lo ^^^ (fromP x0.A.lo x0.A.hi).hi))) ((onesV ((fromP x0.A.lo x0.A.hi).lo ^^^ (fromP x0.A.lo x0.A.hi).hi)) - ((onesV ((fromP x0.A.lo x0.A.hi).lo ^^^ (fromP x0.A.lo x0.A.hi).hi)) >>> (1#64).toNat))]; rfl))) ?_
    simp only [List.set_cons_succ, List.set_cons_zero]
    refine lin_val (i := 4) (v := .int .u64 (tn (((fromP x0.A.lo x0.A.hi).lo &&& ~~~(onesV ((fromP x0.A.lo x0.A.hi).lo ^^^ (fromP x0.A.lo x0.A.hi).hi))) ||| ((onesV ((fromP x0.A.lo x0.A.hi).lo ^^^ (fromP x0.A.lo x0.A.hi).hi)) - ((onesV ((fromP x0.A.lo x0.A.hi).lo ^^^ (fromP x0.A.lo x0.A.hi).hi)) >>> (1#64).toNat))))) rfl rfl (by rfl) (by intro x hx; go_simp; (first | done | exact rfl)) ?_
    simp only [List.set_cons_succ, List.set_cons_zero]
    refine lin_done ?_
    intro W25 hx
    replace HS := hid hx
    clear hx
    -- region 17
    go_upto_region 17 with fail
    refine lin_begin (St w [⟨w.heap.size, [some (.int .u64 (tn (x0.A.lo))), some (.int .u64 (tn (x0.A.hi))), some (.int .u64 (tn (x0.B.lo))), some (.int .u64 (tn (x0.B.hi))), some (.int .u64 (tn (x0.V))), some (.int .u64 (tn (x0.W))), some (.int .i64 (ti (x0.N)))], 60⟩, ⟨k1, [some (.int .u64 (tn ((fromP x0.A.lo x0.A.hi).lo))), some (.int .u64 (tn ((fromP x0.A.lo x0.A.hi).hi)))], 24⟩, ⟨k2, [some (.int .u64 (tn ((fromP x0.B.lo x0.B.hi).lo))), some (.int .u64 (tn ((fromP x0.B.lo x0.B.hi).hi)))], 24⟩, ⟨k3, [some (.int .u64 (tn (minU (fromP x0.A.lo x0.A.hi).lo (fromP x0.B.lo x0.B.hi).lo))), some (.int .u64 (tn (maxU (fromP x0.A.lo x0.A.hi).hi (fromP x0.B.lo x0.B.hi).hi)))], 24⟩, ⟨k4, [some (.int .u64 (tn ((fromP x0.A.lo x0.A.hi).lo &&& ~~~(onesV ((fromP x0.A.lo x0.A.hi).lo ^^^ (fromP x0.A.lo x0.A.hi).hi))))), some (.int .u64 (tn (onesV ((fromP x0.A.lo x0.A.hi).lo ^^^ (fromP x0.A.lo x0.A.hi).hi))))], 51⟩, ⟨k5, [some (.int .u64 (tn (x0.V &&& ~~~x1))), some (.int .u64 (tn (x1)))], 51⟩, ⟨k6, [some (.int .u64 (tn ((P.mk (x0.V &&& ~~~x1) x1).lo))), some (.int .u64 (tn ((P.mk (x0.V &&& ~~~x1) x1).lo ||| (P.mk (x0.V &&& ~~~x1) x1).hi)))], 24⟩, ⟨k7, [some (.int .i64 (ti ((span_Sbounds (P.mk (x0.V &&& ~~~x1) x1)).lo))), some (.int .i64 (ti ((span_Sbounds (P.mk (x0.V &&& ~~~x1) x1)).hi)))], 38⟩, ⟨k8, [some (.int .u64 (tn ((P.mk (x0.V &&& ~~~x1) x1).lo))), some (.int .u64 (tn ((P.mk (x0.V &&& ~~~x1) x1).lo ||| (P.mk (x0.V &&& ~~~x1) x1).hi))), some (.int .u64 (tn ((span_Sbounds (P.mk (x0.V &&& ~~~x1) x1)).lo))), some (.int .u64 (tn ((span_Sbounds (P.mk (x0.V &&& ~~~x1) x1)).hi)))], 22⟩]) rfl HS.out ?_
    refine lin_val (i := 0) (v := .agg #[.int .u64 (tn ((fromP x0.A.lo x0.A.hi).lo)), .int .u64 (tn ((fromP x0.A.lo x0.A.hi).hi))]) rfl rfl (by rfl) (by intro x hx; have f0 := hx.load 1 0 rfl rfl; have f1 := hx.load 1 1 rfl rfl; go_simp; (first | done | exact rfl)) ?_
    simp only [List.set_cons_succ, List.set_cons_zero]
    refine lin_val (i := 1) (v := .int .u64 (tn (((fromP x0.A.lo x0.A.hi).lo &&& ~~~(onesV ((fromP x0.A.lo x0.A.hi).lo ^^^ (fromP x0.A.lo x0.A.hi).hi))) ||| ((onesV ((fromP x0.A.lo x0.A.hi).lo ^^^ (fromP x0.A.lo x0.A.hi).hi)) - ((onesV ((fromP x0.A.lo x0.A.hi).lo ^^^ (fromP x0.A.lo x0.A.hi).hi)) >>> (1#64).toNat))))) rfl rfl (by rfl) (by intro x hx; go_simp; (first | done | exact rfl)) ?_
    simp only [List.set_cons_succ, List.set_cons_zero]
    refine lin_call (i := 2) (f := 19) (args := #[.agg #[.int .u64 (tn ((fromP x0.A.lo x0.A.hi).lo)), .int .u64 (tn ((fromP x0.A.lo x0.A.hi).hi))], .int .u64 (tn (((fromP x0.A.lo x0.A.hi).lo &&& ~~~(onesV ((fromP x0.A.lo x0.A.hi).lo ^^^ (fromP x0.A.lo x0.A.hi).hi))) ||| ((onesV ((fromP x0.A.lo x0.A.hi).lo ^^^ (fromP x0.A.lo x0.A.hi).hi)) - ((onesV ((fromP x0.A.lo x0.A.hi).lo ^^^ (fromP x0.A.lo x0.A.hi).hi)) >>> (1#64).toNat))))]) (v := .bool true) (st_ups _ _) rfl rfl (by rfl) (fun x hx => by kernel_rfl) (by intro x hx; exact calls_is (span_In_any (fromP x0.A.lo x0.A.hi) (((fromP x0.A.lo x0.A.hi).lo &&& ~~~(onesV ((fromP x0.A.lo x0.A.hi).lo ^^^ (fromP x0.A.lo x0.A.hi).hi))) ||| ((onesV ((fromP x0.A.lo x0.A.hi).lo ^^^ (fromP x0.A.lo x0.A.hi).hi)) - ((onesV ((fromP x0.A.lo x0.A.hi).lo ^^^ (fromP x0.A.lo x0.A.hi).hi)) >>> (1#64).toNat))) _) (congrArg Value.bool (in_of (mid_in HLA.out h1.out).1))) ?_
    simp only [List.set_cons_succ, List.set_cons_zero]
    refine lin_val (i := 3) (v := .bool false) rfl rfl (by rfl) (by intro x hx; go_simp; (first | done | exact rfl)) ?_
    simp only [List.set_cons_succ, List.set_cons_zero]
    refine lin_val (i := 4) (v := .bool false) rfl rfl (by rfl) (by intro x hx; go_simp; (first | done | exact rfl)) ?_
    simp only [List.set_cons_succ, List.set_cons_zero]
    refine lin_val (i := 5) (v := .agg #[.int .u64 (tn ((fromP x0.A.lo x0.A.hi).lo)), .int .u64 (tn ((fromP x0.A.lo x0.A.hi).hi))]) rfl rfl (by rfl) (by intro x hx; have f0 := hx.load 1 0 rfl rfl; have f1 := hx.load 1 1 rfl rfl; go_simp; (first | done | exact rfl)) ?_
    simp only [List.set_cons_succ, List.set_cons_zero]
    refine lin_val (i := 6) (v := .int .u64 (tn (((fromP x0.A.lo x0.A.hi).lo &&& ~~~(onesV ((fromP x0.A.lo x0.A.hi).lo ^^^ (fromP x0.A.lo x0.A.hi).hi))) ||| ((onesV ((fromP x0.A.lo x0.A.hi).lo ^^^ (fromP x0.A.lo x0.A.hi).hi)) - ((onesV ((fromP x0.A.lo x0.A.hi).lo ^^^ (fromP x0.A.lo x0.A.hi).hi)) >>> (1#64).toNat))))) rfl rfl (by rfl) (by intro x hx; go_simp; (first | done | exact rfl)) ?_
    simp only [List.set_cons_succ, List.set_cons_zero]
    refine lin_val (i := 7) (v := .int .u64 (tn ((((fromP x0.A.lo x0.A.hi).lo &&& ~~~(onesV ((fromP x0.A.lo x0.A.hi).lo ^^^ (fromP x0.A.lo x0.A.hi).hi))) ||| ((onesV ((fromP x0.A.lo x0.A.hi).lo ^^^ (fromP x0.A.lo x0.A.hi).hi)) - ((onesV ((fromP x0.A.lo x0.A.hi).lo ^^^ (fromP x0.A.lo x0.A.hi).hi)) >>> (1#64).toNat))) - 1#64))) rfl rfl (by rfl) (by intro x hx; go_simp; (first | done | exact subUT (((fromP x0.A.lo x0.A.hi).lo &&& ~~~(onesV ((fromP x0.A.lo x0.A.hi).lo ^^^ (fromP x0.A.lo x0.A.hi).hi))) ||| ((onesV ((fromP x0.A.lo x0.A.hi).lo ^^^ (fromP x0.A.lo x0.A.hi).hi)) - ((onesV ((fromP x0.A.lo x0.A.hi).lo ^^^ (fromP x0.A.lo x0.A.hi).hi)) >>> (1#64).toNat))) 1#64 | exact congrArg _ (subUT (((fromP x0.A.lo x0.A.hi).lo &&& ~~~(onesV ((fromP x0.A.lo x0.A.hi).lo ^^^ (fromP x0.A.lo x0.A.hi).hi))) ||| ((onesV ((fromP x0.A.lo x0.A.hi).lo ^^^ (fromP x0.A.lo x0.A.hi).hi)) - ((onesV ((fromP x0.A.lo x0.A.hi).lo ^^^ (fromP x0.A.lo x0.A.hi).hi)) >>> (1#64).toNat))) 1#64) | (rw [subUT (((fromP x0.A.lo x0.A.hi).lo &&& ~~~(onesV ((fromP x0.A.lo x0.A.hi).lo ^^^ (fromP x0.A.lo x0.A.hi).hi))) ||| ((onesV ((fromP x0.A.lo x0.A.hi).lo ^^^ (fromP x0.A.lo x0.A.hi).hi)) - ((onesV ((fromP x0.A.lo x0.A.hi).lo ^^^ (fromP x0.A.lo x0.A.hi).hi)) >>> (1#64).toNat))) 1#64]; done) | (rw [subUT (((fromP x0.A.lo x0.A.hi).lo &&& ~~~(onesV ((fromP x0.A.lo x0.A.hi).lo ^^^ (fromP x0.A.lo x0.A.hi).hi))) ||| ((onesV ((fromP x0.A.lo x0.A.hi).lo ^^^ (fromP x0.A.lo x0.A.hi).hi)) - ((onesV ((fromP x0.A.lo x0.A.hi).lo ^^^ (fromP x0.A.lo x0.A.hi).hi)) >>> (1#64).toNat))) 1#64]; rfl))) ?_
    simp only [List.set_cons_succ, List.set_cons_zero]
    refine lin_call (i := 8) (f := 19) (args := #[.agg #[.int .u64 (tn ((fromP x0.A.lo x0.A.hi).lo)), .int .u64 (tn ((fromP x0.A.lo x0.A.hi).hi))], .int .u64 (tn ((((fromP x0.A.lo x0.A.hi).lo &&& ~~~(onesV ((fromP x0.A.lo x0.A.hi).lo ^^^ (fromP x0.A.lo x0.A.hi).hi))) ||| ((onesV ((fromP x0.A.lo x0.A.hi).lo ^^^ (fromP x0.A.lo x0.A.hi).hi)) - ((onesV ((fromP x0.A.lo x0.A.hi).lo ^^^ (fromP x0.A.lo x0.A.hi).hi)) >>> (1#64).toNat))) - 1#64))]) (v := .bool true) (st_ups _ _) rfl rfl (by rfl) (fun x hx => by kernel_rfl) (by intro x hx; exact calls_is (span_In_any (fromP x0.A.lo x0.A.hi) ((((fromP x0.A.lo x0.A.hi).lo &&& ~~~(onesV ((fromP x0.A.lo x0.A.hi).lo ^^^ (fromP x0.A.lo x0.A.hi).hi))) ||| ((onesV ((fromP x0.A.lo x0.A.hi).lo ^^^ (fromP x0.A.lo x0.A.hi).hi)) - ((onesV ((fromP x0.A.lo x0.A.hi).lo ^^^ (fromP x0.A.lo x0.A.hi).hi)) >>> (1#64).toNat))) - 1#64) _) (congrArg Value.bool (in_of (mid_in HLA.out h1.out).2))) ?_
    simp only [List.set_cons_succ, List.set_cons_zero]
    refine lin_val (i := 9) (v := .bool false) rfl rfl (by rfl) (by intro x hx; go_simp; (first | done | exact rfl)) ?_
    simp only [List.set_cons_succ, List.set_cons_zero]
    refine lin_val (i := 10) (v := .bool false) rfl rfl (by rfl) (by intro x hx; go_simp; (first | done | exact rfl)) ?_
    simp only [List.set_cons_succ, List.set_cons_zero]
    refine lin_val (i := 11) (v := .bool false) rfl rfl (by rfl) (by intro x hx; go_simp; (first | done | exact rfl)) ?_
    simp only [List.set_cons_succ, List.set_cons_zero]
    refine lin_val (i := 12) (v := .pointer (some ⟨k4, 1, none⟩)) rfl rfl (by rfl) (by intro x hx; go_simp; (first | done | exact rfl)) ?_
    simp only [List.set_cons_succ, List.set_cons_zero]
    refine lin_val (i := 13) (v := .int .u64 (tn (onesV ((fromP x0.A.lo x0.A.hi).lo ^^^ (fromP x0.A.lo x0.A.hi).hi)))) rfl rfl (by rfl) (by intro x hx; have f0 := hx.load 4 1 rfl rfl; go_simp; (first | done | exact rfl)) ?_
    simp only [List.set_cons_succ, List.set_cons_zero]
    refine lin_val (i := 14) (v := .pointer (some ⟨k4, 1, none⟩)) rfl rfl (by rfl) (by intro x hx; go_simp; (first | done | exact rfl)) ?_
    simp only [List.set_cons_succ, List.set_cons_zero]
    refine lin_val (i := 15) (v := .int .u64 (tn (onesV ((fromP x0.A.lo x0.A.hi).lo ^^^ (fromP x0.A.lo x0.A.hi).hi)))) rfl rfl (by rfl) (by intro x hx; have f0 := hx.load 4 1 rfl rfl; go_simp; (first | done | exact rfl)) ?_
    simp only [List.set_cons_succ, List.set_cons_zero]
    refine lin_val (i := 16) (v := .int .u64 (tn ((onesV ((fromP x0.A.lo x0.A.hi).lo ^^^ (fromP x0.A.lo x0.A.hi).hi)) + 1#64))) rfl rfl (by rfl) (by intro x hx; go_simp; (first | done | exact addUT (onesV ((fromP x0.A.lo x0.A.hi).lo ^^^ (fromP x0.A.lo x0.A.hi).hi)) 1#64 | exact congrArg _ (addUT (onesV ((fromP x0.A.lo x0.A.hi).lo ^^^ (fromP x0.A.lo x0.A.hi).hi)) 1#64) | (rw [addUT (onesV ((fromP x0.A.lo x0.A.hi).lo ^^^ (fromP x0.A.lo x0.A.hi).hi)) 1#64]; done) | (rw [addUT (onesV ((fromP x0.A.lo x0.A.hi).lo ^^^ (fromP x0.A.lo x0.A.hi).hi)) 1#64]; rfl))) ?_
    simp only [List.set_cons_succ, List.set_cons_zero]
    refine lin_val (i := 17) (v := .int .u64 (tn ((onesV ((fromP x0.A.lo x0.A.hi).lo ^^^ (fromP x0.A.lo x0.A.hi).hi)) &&& ((onesV ((fromP x0.A.lo x0.A.hi).lo ^^^ (fromP x0.A.lo x0.A.hi).hi)) + 1#64)))) rfl rfl (by rfl) (by intro x hx; go_simp; (first | done | exact andUT (onesV ((fromP x0.A.lo x0.A.hi).lo ^^^ (fromP x0.A.lo x0.A.hi).hi)) ((onesV ((fromP x0.A.lo x0.A.hi).lo ^^^ (fromP x0.A.lo x0.A.hi).hi)) + 1#64) | exact congrArg _ (andUT (onesV ((fromP x0.A.lo x0.A.hi).lo ^^^ (fromP x0.A.lo x0.A.hi).hi)) ((onesV ((fromP x0.A.lo x0.A.hi).lo ^^^ (fromP x0.A.lo x0.A.hi).hi)) + 1#64)) | (rw [andUT (onesV ((fromP x0.A.lo x0.A.hi).lo ^^^ (fromP x0.A.lo x0.A.hi).hi)) ((onesV ((fromP x0.A.lo x0.A.hi).lo ^^^ (fromP x0.A.lo x0.A.hi).hi)) + 1#64)]; done) | (rw [andUT (onesV ((fromP x0.A.lo x0.A.hi).lo ^^^ (fromP x0.A.lo x0.A.hi).hi)) ((onesV ((fromP x0.A.lo x0.A.hi).lo ^^^ (fromP x0.A.lo x0.A.hi).hi)) + 1#64)]; rfl))) ?_
    simp only [List.set_cons_succ, List.set_cons_zero]
    refine lin_val (i := 18) (v := .bool false) rfl rfl (by rfl) (by intro x hx; go_simp; (first | done | (first | exact bne_of (mask_next _) | exact eq_of_beq (bne_of (mask_next _)) | exact congrArg _ (bne_of (mask_next _)) | (rw [bne_of (mask_next _)]; done) | ((first | rfl | exact neUT ((onesV ((fromP x0.A.lo x0.A.hi).lo ^^^ (fromP x0.A.lo x0.A.hi).hi)) &&& ((onesV ((fromP x0.A.lo x0.A.hi).lo ^^^ (fromP x0.A.lo x0.A.hi).hi)) + 1#64)) 0#64 | exact congrArg _ (neUT ((onesV ((fromP x0.A.lo x0.A.hi).lo ^^^ (fromP x0.A.lo x0.A.hi).hi)) &&& ((onesV ((fromP x0.A.lo x0.A.hi).lo ^^^ (fromP x0.A.lo x0.A.hi).hi)) + 1#64)) 0#64) | (rw [neUT ((onesV ((fromP x0.A.lo x0.A.hi).lo ^^^ (fromP x0.A.lo x0.A.hi).hi)) &&& ((onesV ((fromP x0.A.lo x0.A.hi).lo ^^^ (fromP x0.A.lo x0.A.hi).hi)) + 1#64)) 0#64]; done) | (rw [neUT ((onesV ((fromP x0.A.lo x0.A.hi).lo ^^^ (fromP x0.A.lo x0.A.hi).hi)) &&& ((onesV ((fromP x0.A.lo x0.A.hi).lo ^^^ (fromP x0.A.lo x0.A.hi).hi)) + 1#64)) 0#64]; rfl)); rw [bne_of (mask_next _)]) | exact congrArg tn (eq_of_beq (bne_of (mask_next _))) | exact congrArg ti (eq_of_beq (bne_of (mask_next _))) | exact congrArg tn (eq_of_bne (bne_of (mask_next _))) | simpa using (bne_of (mask_next _))))) ?_
    simp only [List.set_cons_succ, List.set_cons_zero]
    refine lin_val (i := 19) (v := .bool false) rfl rfl (by rfl) (by intro x hx; go_simp; (first | done | exact rfl)) ?_
    simp only [List.set_cons_succ, List.set_cons_zero]
    refine lin_done ?_
    intro W26 hx
    replace HS := hid hx
    clear hx
    -- region 19
    go_upto_region 19 with fail
    refine lin_begin (St w [⟨w.heap.size, [some (.int .u64 (tn (x0.A.lo))), some (.int .u64 (tn (x0.A.hi))), some (.int .u64 (tn (x0.B.lo))), some (.int .u64 (tn (x0.B.hi))), some (.int .u64 (tn (x0.V))), some (.int .u64 (tn (x0.W))), some (.int .i64 (ti (x0.N)))], 60⟩, ⟨k1, [some (.int .u64 (tn ((fromP x0.A.lo x0.A.hi).lo))), some (.int .u64 (tn ((fromP x0.A.lo x0.A.hi).hi)))], 24⟩, ⟨k2, [some (.int .u64 (tn ((fromP x0.B.lo x0.B.hi).lo))), some (.int .u64 (tn ((fromP x0.B.lo x0.B.hi).hi)))], 24⟩, ⟨k3, [some (.int .u64 (tn (minU (fromP x0.A.lo x0.A.hi).lo (fromP x0.B.lo x0.B.hi).lo))), some (.int .u64 (tn (maxU (fromP x0.A.lo x0.A.hi).hi (fromP x0.B.lo x0.B.hi).hi)))], 24⟩, ⟨k4, [some (.int .u64 (tn ((fromP x0.A.lo x0.A.hi).lo &&& ~~~(onesV ((fromP x0.A.lo x0.A.hi).lo ^^^ (fromP x0.A.lo x0.A.hi).hi))))), some (.int .u64 (tn (onesV ((fromP x0.A.lo x0.A.hi).lo ^^^ (fromP x0.A.lo x0.A.hi).hi))))], 51⟩, ⟨k5, [some (.int .u64 (tn (x0.V &&& ~~~x1))), some (.int .u64 (tn (x1)))], 51⟩, ⟨k6, [some (.int .u64 (tn ((P.mk (x0.V &&& ~~~x1) x1).lo))), some (.int .u64 (tn ((P.mk (x0.V &&& ~~~x1) x1).lo ||| (P.mk (x0.V &&& ~~~x1) x1).hi)))], 24⟩, ⟨k7, [some (.int .i64 (ti ((span_Sbounds (P.mk (x0.V &&& ~~~x1) x1)).lo))), some (.int .i64 (ti ((span_Sbounds (P.mk (x0.V &&& ~~~x1) x1)).hi)))], 38⟩, ⟨k8, [some (.int .u64 (tn ((P.mk (x0.V &&& ~~~x1) x1).lo))), some (.int .u64 (tn ((P.mk (x0.V &&& ~~~x1) x1).lo ||| (P.mk (x0.V &&& ~~~x1) x1).hi))), some (.int .u64 (tn ((span_Sbounds (P.mk (x0.V &&& ~~~x1) x1)).lo))), some (.int .u64 (tn ((span_Sbounds (P.mk (x0.V &&& ~~~x1) x1)).hi)))], 22⟩]) rfl HS.out ?_
    refine lin_val (i := 0) (v := .pointer (some ⟨k3, 0, none⟩)) rfl rfl (by rfl) (by intro x hx; go_simp; (first | done | exact rfl)) ?_
    simp only [List.set_cons_succ, List.set_cons_zero]
    refine lin_val (i := 1) (v := .int .u64 (tn (minU (fromP x0.A.lo x0.A.hi).lo (fromP x0.B.lo x0.B.hi).lo))) rfl rfl (by rfl) (by intro x hx; have f0 := hx.load 3 0 rfl rfl; go_simp; (first | done | exact rfl)) ?_
    simp only [List.set_cons_succ, List.set_cons_zero]
    refine lin_val (i := 2) (v := .pointer (some ⟨k1, 0, none⟩)) rfl rfl (by rfl) (by intro x hx; go_simp; (first | done | exact rfl)) ?_
    simp only [List.set_cons_succ, List.set_cons_zero]
    refine lin_val (i := 3) (v := .int .u64 (tn ((fromP x0.A.lo x0.A.hi).lo))) rfl rfl (by rfl) (by intro x hx; have f0 := hx.load 1 0 rfl rfl; go_simp; (first | done | exact rfl)) ?_
    simp only [List.set_cons_succ, List.set_cons_zero]
    refine lin_val (i := 4) (v := .bool (((minU (fromP x0.A.lo x0.A.hi).lo (fromP x0.B.lo x0.B.hi).lo) == ((fromP x0.A.lo x0.A.hi).lo)))) rfl rfl (by rfl) (by intro x hx; go_simp; (first | done | exact eqUT (minU (fromP x0.A.lo x0.A.hi).lo (fromP x0.B.lo x0.B.hi).lo) ((fromP x0.A.lo x0.A.hi).lo) | exact congrArg _ (eqUT (minU (fromP x0.A.lo x0.A.hi).lo (fromP x0.B.lo x0.B.hi).lo) ((fromP x0.A.lo x0.A.hi).lo)) | (rw [eqUT (minU (fromP x0.A.lo x0.A.hi).lo (fromP x0.B.lo x0.B.hi).lo) ((fromP x0.A.lo x0.A.hi).lo)]; done) | (rw [eqUT (minU (fromP x0.A.lo x0.A.hi).lo (fromP x0.B.lo x0.B.hi).lo) ((fromP x0.A.lo x0.A.hi).lo)]; rfl))) ?_
    simp only [List.set_cons_succ, List.set_cons_zero]
    refine lin_val (i := 5) (v := .bool (((minU (fromP x0.A.lo x0.A.hi).lo (fromP x0.B.lo x0.B.hi).lo) == ((fromP x0.A.lo x0.A.hi).lo)))) rfl rfl (by rfl) (by intro x hx; go_simp; (first | done | exact rfl)) ?_
    simp only [List.set_cons_succ, List.set_cons_zero]
    refine lin_if (i := 6) (v := .pointer (some ⟨k3, 0, none⟩)) (!((minU (fromP x0.A.lo x0.A.hi).lo (fromP x0.B.lo x0.B.hi).lo) == ((fromP x0.A.lo x0.A.hi).lo))) rfl rfl (by generalize ((minU (fromP x0.A.lo x0.A.hi).lo (fromP x0.B.lo x0.B.hi).lo) == ((fromP x0.A.lo x0.A.hi).lo)) = gg0; cases gg0 <;> rfl) (by intro hb; have hb73 := hid (show (((minU (fromP x0.A.lo x0.A.hi).lo (fromP x0.B.lo x0.B.hi).lo) == ((fromP x0.A.lo x0.A.hi).lo))) = false from nnb hb); intro x hx; (try simp only [hb, cond_true]); go_simp; (first | done | exact rfl)) ?_
    simp only [List.set_cons_succ, List.set_cons_zero]
    refine lin_if (i := 7) (v := .int .u64 (tn (minU (fromP x0.A.lo x0.A.hi).lo (fromP x0.B.lo x0.B.hi).lo))) (!((minU (fromP x0.A.lo x0.A.hi).lo (fromP x0.B.lo x0.B.hi).lo) == ((fromP x0.A.lo x0.A.hi).lo))) rfl rfl (by generalize ((minU (fromP x0.A.lo x0.A.hi).lo (fromP x0.B.lo x0.B.hi).lo) == ((fromP x0.A.lo x0.A.hi).lo)) = gg0; cases gg0 <;> rfl) (by intro hb; have hb74 := hid (show (((minU (fromP x0.A.lo x0.A.hi).lo (fromP x0.B.lo x0.B.hi).lo) == ((fromP x0.A.lo x0.A.hi).lo))) = false from nnb hb); intro x hx; (try simp only [hb, cond_true]); have f0 := hx.load 3 0 rfl rfl; go_simp; (first | done | exact rfl)) ?_
    simp only [List.set_cons_succ, List.set_cons_zero]
    refine lin_if (i := 8) (v := .pointer (some ⟨k2, 0, none⟩)) (!((minU (fromP x0.A.lo x0.A.hi).lo (fromP x0.B.lo x0.B.hi).lo) == ((fromP x0.A.lo x0.A.hi).lo))) rfl rfl (by generalize ((minU (fromP x0.A.lo x0.A.hi).lo (fromP x0.B.lo x0.B.hi).lo) == ((fromP x0.A.lo x0.A.hi).lo)) = gg0; cases gg0 <;> rfl) (by intro hb; have hb75 := hid (show (((minU (fromP x0.A.lo x0.A.hi).lo (fromP x0.B.lo x0.B.hi).lo) == ((fromP x0.A.lo x0.A.hi).lo))) = false from nnb hb); intro x hx; (try simp only [hb, cond_true]); go_simp; (first | done | exact rfl)) ?_
    simp only [List.set_cons_succ, List.set_cons_zero]
    refine lin_if (i := 9) (v := .int .u64 (tn ((fromP x0.B.lo x0.B.hi).lo))) (!((minU (fromP x0.A.lo x0.A.hi).lo (fromP x0.B.lo x0.B.hi).lo) == ((fromP x0.A.lo x0.A.hi).lo))) rfl rfl (by generalize ((minU (fromP x0.A.lo x0.A.hi).lo (fromP x0.B.lo x0.B.hi).lo) == ((fromP x0.A.lo x0.A.hi).lo)) = gg0; cases gg0 <;> rfl) (by intro hb; have hb76 := hid (show (((minU (fromP x0.A.lo x0.A.hi).lo (fromP x0.B.lo x0.B.hi).lo) == ((fromP x0.A.lo x0.A.hi).lo))) = false from nnb hb); intro x hx; (try simp only [hb, cond_true]); have f0 := hx.load 2 0 rfl rfl; go_simp; (first | done | exact rfl)) ?_
    simp only [List.set_cons_succ, List.set_cons_zero]
    refine lin_if (i := 10) (v := .bool (((minU (fromP x0.A.lo x0.A.hi).lo (fromP x0.B.lo x0.B.hi).lo) == ((fromP x0.B.lo x0.B.hi).lo)))) (!((minU (fromP x0.A.lo x0.A.hi).lo (fromP x0.B.lo x0.B.hi).lo) == ((fromP x0.A.lo x0.A.hi).lo))) rfl rfl (by generalize ((minU (fromP x0.A.lo x0.A.hi).lo (fromP x0.B.lo x0.B.hi).lo) == ((fromP x0.A.lo x0.A.hi).lo)) = gg0; cases gg0 <;> rfl) (by intro hb; have hb77 := hid (show (((minU (fromP x0.A.lo x0.A.hi).lo (fromP x0.B.lo x0.B.hi).lo) == ((fromP x0.A.lo x0.A.hi).lo))) = false from nnb hb); intro x hx; (try simp only [hb, cond_true]); go_simp; (first | done | exact eqUT (minU (fromP x0.A.lo x0.A.hi).lo (fromP x0.B.lo x0.B.hi).lo) ((fromP x0.B.lo x0.B.hi).lo) | exact congrArg _ (eqUT (minU (fromP x0.A.lo x0.A.hi).lo (fromP x0.B.lo x0.B.hi).lo) ((fromP x0.B.lo x0.B.hi).lo)) | (rw [eqUT (minU (fromP x0.A.lo x0.A.hi).lo (fromP x0.B.lo x0.B.hi).lo) ((fromP x0.B.lo x0.B.hi).lo)]; done) | (rw [eqUT (minU (fromP x0.A.lo x0.A.hi).lo (fromP x0.B.lo x0.B.hi).lo) ((fromP x0.B.lo x0.B.hi).lo)]; rfl))) ?_
    simp only [List.set_cons_succ, List.set_cons_zero]
    refine lin_val (i := 11) (v := .bool ((bif ((minU (fromP x0.A.lo x0.A.hi).lo (fromP x0.B.lo x0.B.hi).lo) == ((fromP x0.A.lo x0.A.hi).lo)) then true else ((minU (fromP x0.A.lo x0.A.hi).lo (fromP x0.B.lo x0.B.hi).lo) == ((fromP x0.B.lo x0.B.hi).lo))))) rfl rfl (by rfl) (by intro x hx; (cases hq : (((minU (fromP x0.A.lo x0.A.hi).lo (fromP x0.B.lo x0.B.hi).lo) == ((fromP x0.A.lo x0.A.hi).lo))) <;> first | rfl | (simp only [hq]; rfl) | simp [hq])) ?_
    simp only [List.set_cons_succ, List.set_cons_zero]
    refine lin_val (i := 12) (v := .bool ((bif ((minU (fromP x0.A.lo x0.A.hi).lo (fromP x0.B.lo x0.B.hi).lo) == ((fromP x0.A.lo x0.A.hi).lo)) then true else ((minU (fromP x0.A.lo x0.A.hi).lo (fromP x0.B.lo x0.B.hi).lo) == ((fromP x0.B.lo x0.B.hi).lo))))) rfl rfl (by rfl) (by intro x hx; go_simp; (first | done | exact rfl)) ?_
    simp only [List.set_cons_succ, List.set_cons_zero]
    rw [show ((bif ((minU (fromP x0.A.lo x0.A.hi).lo (fromP x0.B.lo x0.B.hi).lo) == ((fromP x0.A.lo x0.A.hi).lo)) then true else ((minU (fromP x0.A.lo x0.A.hi).lo (fromP x0.B.lo x0.B.hi).lo) == ((fromP x0.B.lo x0.B.hi).lo)))) = true from min_one _ _]
    refine lin_val (i := 13) (v := .pointer (some ⟨k3, 1, none⟩)) rfl rfl (by rfl) (by intro x hx; go_simp; (first | done | exact rfl)) ?_
    simp only [List.set_cons_succ, List.set_cons_zero]
    refine lin_val (i := 14) (v := .int .u64 (tn (maxU (fromP x0.A.lo x0.A.hi).hi (fromP x0.B.lo x0.B.hi).hi))) rfl rfl (by rfl) (by intro x hx; have f0 := hx.load 3 1 rfl rfl; go_simp; (first | done | exact rfl)) ?_
    simp only [List.set_cons_succ, List.set_cons_zero]
    refine lin_val (i := 15) (v := .pointer (some ⟨k1, 1, none⟩)) rfl rfl (by rfl) (by intro x hx; go_simp; (first | done | exact rfl)) ?_
    simp only [List.set_cons_succ, List.set_cons_zero]
    refine lin_val (i := 16) (v := .int .u64 (tn ((fromP x0.A.lo x0.A.hi).hi))) rfl rfl (by rfl) (by intro x hx; have f0 := hx.load 1 1 rfl rfl; go_simp; (first | done | exact rfl)) ?_
    simp only [List.set_cons_succ, List.set_cons_zero]
    refine lin_val (i := 17) (v := .bool (((maxU (fromP x0.A.lo x0.A.hi).hi (fromP x0.B.lo x0.B.hi).hi) == ((fromP x0.A.lo x0.A.hi).hi)))) rfl rfl (by rfl) (by intro x hx; go_simp; (first | done | exact eqUT (maxU (fromP x0.A.lo x0.A.hi).hi (fromP x0.B.lo x0.B.hi).hi) ((fromP x0.A.lo x0.A.hi).hi) | exact congrArg _ (eqUT (maxU (fromP x0.A.lo x0.A.hi).hi (fromP x0.B.lo x0.B.hi).hi) ((fromP x0.A.lo x0.A.hi).hi)) | (rw [eqUT (maxU (fromP x0.A.lo x0.A.hi).hi (fromP x0.B.lo x0.B.hi).hi) ((fromP x0.A.lo x0.A.hi).hi)]; done) | (rw [eqUT (maxU (fromP x0.A.lo x0.A.hi).hi (fromP x0.B.lo x0.B.hi).hi) ((fromP x0.A.lo x0.A.hi).hi)]; rfl))) ?_
    simp only [List.set_cons_succ, List.set_cons_zero]
    refine lin_val (i := 18) (v := .bool (((maxU (fromP x0.A.lo x0.A.hi).hi (fromP x0.B.lo x0.B.hi).hi) == ((fromP x0.A.lo x0.A.hi).hi)))) rfl rfl (by rfl) (by intro x hx; go_simp; (first | done | exact rfl)) ?_
    simp only [List.set_cons_succ, List.set_cons_zero]
    refine lin_if (i := 19) (v := .pointer (some ⟨k3, 1, none⟩)) (!((maxU (fromP x0.A.lo x0.A.hi).hi (fromP x0.B.lo x0.B.hi).hi) == ((fromP x0.A.lo x0.A.hi).hi))) rfl rfl (by generalize ((maxU (fromP x0.A.lo x0.A.hi).hi (fromP x0.B.lo x0.B.hi).hi) == ((fromP x0.A.lo x0.A.hi).hi)) = gg0; cases gg0 <;> rfl) (by intro hb; have hb78 := hid (show (((maxU (fromP x0.A.lo x0.A.hi).hi (fromP x0.B.lo x0.B.hi).hi) == ((fromP x0.A.lo x0.A.hi).hi))) = false from nnb hb); intro x hx; (try simp only [hb, cond_true]); go_simp; (first | done | exact rfl)) ?_
    simp only [List.set_cons_succ, List.set_cons_zero]
    refine lin_if (i := 20) (v := .int .u64 (tn (maxU (fromP x0.A.lo x0.A.hi).hi (fromP x0.B.lo x0.B.hi).hi))) (!((maxU (fromP x0.A.lo x0.A.hi).hi (fromP x0.B.lo x0.B.hi).hi) == ((fromP x0.A.lo x0.A.hi).hi))) rfl rfl (by generalize ((maxU (fromP x0.A.lo x0.A.hi).hi (fromP x0.B.lo x0.B.hi).hi) == ((fromP x0.A.lo x0.A.hi).hi)) = gg0; cases gg0 <;> rfl) (by intro hb; have hb79 := hid (show (((maxU (fromP x0.A.lo x0.A.hi).hi (fromP x0.B.lo x0.B.hi).hi) == ((fromP x0.A.lo x0.A.hi).hi))) = false from nnb hb); intro x hx; (try simp only [hb, cond_true]); have f0 := hx.load 3 1 rfl rfl; go_simp; (first | done | exact rfl)) ?_
    simp only [List.set_cons_succ, List.set_cons_zero]
    refine lin_if (i := 21) (v := .pointer (some ⟨k2, 1, none⟩)) (!((maxU (fromP x0.A.lo x0.A.hi).hi (fromP x0.B.lo x0.B.hi).hi) == ((fromP x0.A.lo x0.A.hi).hi))) rfl rfl (by generalize ((maxU (fromP x0.A.lo x0.A.hi).hi (fromP x0.B.lo x0.B.hi).hi) == ((fromP x0.A.lo x0.A.hi).hi)) = gg0; cases gg0 <;> rfl) (by intro hb; have hb80 := hid (show (((maxU (fromP x0.A.lo x0.A.hi).hi (fromP x0.B.lo x0.B.hi).hi) == ((fromP x0.A.lo x0.A.hi).hi))) = false from nnb hb); intro x hx; (try simp only [hb, cond_true]); go_simp; (first | done | exact rfl)) ?_
    simp only [List.set_cons_succ, List.set_cons_zero]
    refine lin_if (i := 22) (v := .int .u64 (tn ((fromP x0.B.lo x0.B.hi).hi))) (!((maxU (fromP x0.A.lo x0.A.hi).hi (fromP x0.B.lo x0.B.hi).hi) == ((fromP x0.A.lo x0.A.hi).hi))) rfl rfl (by generalize ((maxU (fromP x0.A.lo x0.A.hi).hi (fromP x0.B.lo x0.B.hi).hi) == ((fromP x0.A.lo x0.A.hi).hi)) = gg0; cases gg0 <;> rfl) (by intro hb; have hb81 := hid (show (((maxU (fromP x0.A.lo x0.A.hi).hi (fromP x0.B.lo x0.B.hi).hi) == ((fromP x0.A.lo x0.A.hi).hi))) = false from nnb hb); intro x hx; (try simp only [hb, cond_true]); have f0 := hx.load 2 1 rfl rfl; go_simp; (first | done | exact rfl)) ?_
    simp only [List.set_cons_succ, List.set_cons_zero]
    refine lin_if (i := 23) (v := .bool (((maxU (fromP x0.A.lo x0.A.hi).hi (fromP x0.B.lo x0.B.hi).hi) == ((fromP x0.B.lo x0.B.hi).hi)))) (!((maxU (fromP x0.A.lo x0.A.hi).hi (fromP x0.B.lo x0.B.hi).hi) == ((fromP x0.A.lo x0.A.hi).hi))) rfl rfl (by generalize ((maxU (fromP x0.A.lo x0.A.hi).hi (fromP x0.B.lo x0.B.hi).hi) == ((fromP x0.A.lo x0.A.hi).hi)) = gg0; cases gg0 <;> rfl) (by intro hb; have hb82 := hid (show (((maxU (fromP x0.A.lo x0.A.hi).hi (fromP x0.B.lo x0.B.hi).hi) == ((fromP x0.A.lo x0.A.hi).hi))) = false from nnb hb); intro x hx; (try simp only [hb, cond_true]); go_simp; (first | done | exact eqUT (maxU (fromP x0.A.lo x0.A.hi).hi (fromP x0.B.lo x0.B.hi).hi) ((fromP x0.B.lo x0.B.hi).hi) | exact congrArg _ (eqUT (maxU (fromP x0.A.lo x0.A.hi).hi (fromP x0.B.lo x0.B.hi).hi) ((fromP x0.B.lo x0.B.hi).hi)) | (rw [eqUT (maxU (fromP x0.A.lo x0.A.hi).hi (fromP x0.B.lo x0.B.hi).hi) ((fromP x0.B.lo x0.B.hi).hi)]; done) | (rw [eqUT (maxU (fromP x0.A.lo x0.A.hi).hi (fromP x0.B.lo x0.B.hi).hi) ((fromP x0.B.lo x0.B.hi).hi)]; rfl))) ?_
    simp only [List.set_cons_succ, List.set_cons_zero]
    refine lin_val (i := 24) (v := .bool ((bif ((maxU (fromP x0.A.lo x0.A.hi).hi (fromP x0.B.lo x0.B.hi).hi) == ((fromP x0.A.lo x0.A.hi).hi)) then true else ((maxU (fromP x0.A.lo x0.A.hi).hi (fromP x0.B.lo x0.B.hi).hi) == ((fromP x0.B.lo x0.B.hi).hi))))) rfl rfl (by rfl) (by intro x hx; (cases hq : (((maxU (fromP x0.A.lo x0.A.hi).hi (fromP x0.B.lo x0.B.hi).hi) == ((fromP x0.A.lo x0.A.hi).hi))) <;> first | rfl | (simp only [hq]; rfl) | simp [hq])) ?_
    simp only [List.set_cons_succ, List.set_cons_zero]
    refine lin_val (i := 25) (v := .bool ((bif ((maxU (fromP x0.A.lo x0.A.hi).hi (fromP x0.B.lo x0.B.hi).hi) == ((fromP x0.A.lo x0.A.hi).hi)) then true else ((maxU (fromP x0.A.lo x0.A.hi).hi (fromP x0.B.lo x0.B.hi).hi) == ((fromP x0.B.lo x0.B.hi).hi))))) rfl rfl (by rfl) (by intro x hx; go_simp; (first | done | exact rfl)) ?_
    simp only [List.set_cons_succ, List.set_cons_zero]
    refine lin_val (i := 26) (v := .bool ((bif ((maxU (fromP x0.A.lo x0.A.hi).hi (fromP x0.B.lo x0.B.hi).hi) == ((fromP x0.A.lo x0.A.hi).hi)) then true else ((maxU (fromP x0.A.lo x0.A.hi).hi (fromP x0.B.lo x0.B.hi).hi) == ((fromP x0.B.lo x0.B.hi).hi))))) rfl rfl (by rfl) (by intro x hx; go_simp; (first | done | exact rfl)) ?_
    simp only [List.set_cons_succ, List.set_cons_zero]
    rw [show ((bif ((maxU (fromP x0.A.lo x0.A.hi).hi (fromP x0.B.lo x0.B.hi).hi) == ((fromP x0.A.lo x0.A.hi).hi)) then true else ((maxU (fromP x0.A.lo x0.A.hi).hi (fromP x0.B.lo x0.B.hi).hi) == ((fromP x0.B.lo x0.B.hi).hi)))) = true from max_one _ _]
    refine lin_val (i := 27) (v := .pointer (some ⟨k4, 0, none⟩)) rfl rfl (by rfl) (by intro x hx; go_simp; (first | done | exact rfl)) ?_
    simp only [List.set_cons_succ, List.set_cons_zero]
    refine lin_val (i := 28) (v := .int .u64 (tn ((fromP x0.A.lo x0.A.hi).lo &&& ~~~(onesV ((fromP x0.A.lo x0.A.hi).lo ^^^ (fromP x0.A.lo x0.A.hi).hi))))) rfl rfl (by rfl) (by intro x hx; have f0 := hx.load 4 0 rfl rfl; go_simp; (first | done | exact rfl)) ?_
    simp only [List.set_cons_succ, List.set_cons_zero]
    refine lin_val (i := 29) (v := .pointer (some ⟨k4, 1, none⟩)) rfl rfl (by rfl) (by intro x hx; go_simp; (first | done | exact rfl)) ?_
    simp only [List.set_cons_succ, List.set_cons_zero]
    refine lin_val (i := 30) (v := .int .u64 (tn (onesV ((fromP x0.A.lo x0.A.hi).lo ^^^ (fromP x0.A.lo x0.A.hi).hi)))) rfl rfl (by rfl) (by intro x hx; have f0 := hx.load 4 1 rfl rfl; go_simp; (first | done | exact rfl)) ?_
    simp only [List.set_cons_succ, List.set_cons_zero]
    refine lin_val (i := 31) (v := .int .u64 (tn (((fromP x0.A.lo x0.A.hi).lo &&& ~~~(onesV ((fromP x0.A.lo x0.A.hi).lo ^^^ (fromP x0.A.lo x0.A.hi).hi))) &&& (onesV ((fromP x0.A.lo x0.A.hi).lo ^^^ (fromP x0.A.lo x0.A.hi).hi))))) rfl rfl (by rfl) (by intro x hx; go_simp; (first | done | exact andUT ((fromP x0.A.lo x0.A.hi).lo &&& ~~~(onesV ((fromP x0.A.lo x0.A.hi).lo ^^^ (fromP x0.A.lo x0.A.hi).hi))) (onesV ((fromP x0.A.lo x0.A.hi).lo ^^^ (fromP x0.A.lo x0.A.hi).hi)) | exact congrArg _ (andUT ((fromP x0.A.lo x0.A.hi).lo &&& ~~~(onesV ((fromP x0.A.lo x0.A.hi).lo ^^^ (fromP x0.A.lo x0.A.hi).hi))) (onesV ((fromP x0.A.lo x0.A.hi).lo ^^^ (fromP x0.A.lo x0.A.hi).hi))) | (rw [andUT ((fromP x0.A.lo x0.A.hi).lo &&& ~~~(onesV ((fromP x0.A.lo x0.A.hi).lo ^^^ (fromP x0.A.lo x0.A.hi).hi))) (onesV ((fromP x0.A.lo x0.A.hi).lo ^^^ (fromP x0.A.lo x0.A.hi).hi))]; done) | (rw [andUT ((fromP x0.A.lo x0.A.hi).lo &&& ~~~(onesV ((fromP x0.A.lo x0.A.hi).lo ^^^ (fromP x0.A.lo x0.A.hi).hi))) (onesV ((fromP x0.A.lo x0.A.hi).lo ^^^ (fromP x0.A.lo x0.A.hi).hi))]; rfl))) ?_
    simp only [List.set_cons_succ, List.set_cons_zero]
    refine lin_val (i := 32) (v := .bool true) rfl rfl (by rfl) (by intro x hx; go_simp; (first | done | (first | exact beq_iff_eq.2 (clear_and _ _) | exact eq_of_beq (beq_iff_eq.2 (clear_and _ _)) | exact congrArg _ (beq_iff_eq.2 (clear_and _ _)) | (rw [beq_iff_eq.2 (clear_and _ _)]; done) | ((first | rfl | exact eqUT (((fromP x0.A.lo x0.A.hi).lo &&& ~~~(onesV ((fromP x0.A.lo x0.A.hi).lo ^^^ (fromP x0.A.lo x0.A.hi).hi))) &&& (onesV ((fromP x0.A.lo x0.A.hi).lo ^^^ (fromP x0.A.lo x0.A.hi).hi))) 0#64 | exact congrArg _ (eqUT (((fromP x0.A.lo x0.A.hi).lo &&& ~~~(onesV ((fromP x0.A.lo x0.A.hi).lo ^^^ (fromP x0.A.lo x0.A.hi).hi))) &&& (onesV ((fromP x0.A.lo x0.A.hi).lo ^^^ (fromP x0.A.lo x0.A.hi).hi))) 0#64) | (rw [eqUT (((fromP x0.A.lo x0.A.hi).lo &&& ~~~(onesV ((fromP x0.A.lo x0.A.hi).lo ^^^ (fromP x0.A.lo x0.A.hi).hi))) &&& (onesV ((fromP x0.A.lo x0.A.hi).lo ^^^ (fromP x0.A.lo x0.A.hi).hi))) 0#64]; done) | (rw [eqUT (((fromP x0.A.lo x0.A.hi).lo &&& ~~~(onesV ((fromP x0.A.lo x0.A.hi).lo ^^^ (fromP x0.A.lo x0.A.hi).hi))) &&& (onesV ((fromP x0.A.lo x0.A.hi).lo ^^^ (fromP x0.A.lo x0.A.hi).hi))) 0#64]; rfl)); rw [beq_iff_eq.2 (clear_and _ _)]) | exact congrArg tn (eq_of_beq (beq_iff_eq.2 (clear_and _ _))) | exact congrArg ti (eq_of_beq (beq_iff_eq.2 (clear_and _ _))) | exact congrArg tn (eq_of_bne (beq_iff_eq.2 (clear_and _ _))) | simpa using (beq_iff_eq.2 (clear_and _ _))))) ?_
    simp only [List.set_cons_succ, List.set_cons_zero]
    refine lin_val (i := 33) (v := .bool true) rfl rfl (by rfl) (by intro x hx; go_simp; (first | done | exact rfl)) ?_
    simp only [List.set_cons_succ, List.set_cons_zero]
    refine lin_val (i := 34) (v := .bool true) rfl rfl (by rfl) (by intro x hx; go_simp; (first | done | exact rfl)) ?_
    simp only [List.set_cons_succ, List.set_cons_zero]
    refine lin_val (i := 35) (v := .pointer (some ⟨k4, 1, none⟩)) rfl rfl (by rfl) (by intro x hx; go_simp; (first | done | exact rfl)) ?_
    simp only [List.set_cons_succ, List.set_cons_zero]
    refine lin_val (i := 36) (v := .int .u64 (tn (onesV ((fromP x0.A.lo x0.A.hi).lo ^^^ (fromP x0.A.lo x0.A.hi).hi)))) rfl rfl (by rfl) (by intro x hx; have f0 := hx.load 4 1 rfl rfl; go_simp; (first | done | exact rfl)) ?_
    simp only [List.set_cons_succ, List.set_cons_zero]
    refine lin_val (i := 37) (v := .bool (((onesV ((fromP x0.A.lo x0.A.hi).lo ^^^ (fromP x0.A.lo x0.A.hi).hi)) != 0#64))) rfl rfl (by rfl) (by intro x hx; go_simp; (first | done | exact neUT (onesV ((fromP x0.A.lo x0.A.hi).lo ^^^ (fromP x0.A.lo x0.A.hi).hi)) 0#64 | exact congrArg _ (neUT (onesV ((fromP x0.A.lo x0.A.hi).lo ^^^ (fromP x0.A.lo x0.A.hi).hi)) 0#64) | (rw [neUT (onesV ((fromP x0.A.lo x0.A.hi).lo ^^^ (fromP x0.A.lo x0.A.hi).hi)) 0#64]; done) | (rw [neUT (onesV ((fromP x0.A.lo x0.A.hi).lo ^^^ (fromP x0.A.lo x0.A.hi).hi)) 0#64]; rfl))) ?_
    simp only [List.set_cons_succ, List.set_cons_zero]
    refine lin_val (i := 38) (v := .bool (((onesV ((fromP x0.A.lo x0.A.hi).lo ^^^ (fromP x0.A.lo x0.A.hi).hi)) != 0#64))) rfl rfl (by rfl) (by intro x hx; go_simp; (first | done | exact rfl)) ?_
    simp only [List.set_cons_succ, List.set_cons_zero]
    rw [show (((onesV ((fromP x0.A.lo x0.A.hi).lo ^^^ (fromP x0.A.lo x0.A.hi).hi)) != 0#64)) = true from h1.out]
    refine lin_no (i := 39) rfl rfl (by kernel_rfl) ?_
    simp only [List.set_cons_succ, List.set_cons_zero]
    refine lin_no (i := 40) rfl rfl (by kernel_rfl) ?_
    simp only [List.set_cons_succ, List.set_cons_zero]
    refine lin_no (i := 41) rfl rfl (by kernel_rfl) ?_
    simp only [List.set_cons_succ, List.set_cons_zero]
    refine lin_no (i := 42) rfl rfl (by kernel_rfl) ?_
    simp only [List.set_cons_succ, List.set_cons_zero]
    refine lin_no (i := 43) rfl rfl (by kernel_rfl) ?_
    simp only [List.set_cons_succ, List.set_cons_zero]
    refine lin_val (i := 44) (v := .bool true) rfl rfl (by rfl) (by intro x hx; go_simp; (first | done | exact rfl)) ?_
    simp only [List.set_cons_succ, List.set_cons_zero]
    refine lin_val (i := 45) (v := .bool true) rfl rfl (by rfl) (by intro x hx; go_simp; (first | done | exact rfl)) ?_
    simp only [List.set_cons_succ, List.set_cons_zero]
    refine lin_val (i := 46) (v := .bool true) rfl rfl (by rfl) (by intro x hx; go_simp; (first | done | exact rfl)) ?_
    simp only [List.set_cons_succ, List.set_cons_zero]
    refine lin_val (i := 47) (v := .agg #[.int .u64 (tn ((fromP x0.A.lo x0.A.hi).lo)), .int .u64 (tn ((fromP x0.A.lo x0.A.hi).hi))]) rfl rfl (by rfl) (by intro x hx; have f0 := hx.load 1 0 rfl rfl; have f1 := hx.load 1 1 rfl rfl; go_simp; (first | done | exact rfl)) ?_
    simp only [List.set_cons_succ, List.set_cons_zero]
    refine lin_val (i := 48) (v := .agg #[.int .u64 (tn (minU (fromP x0.A.lo x0.A.hi).lo (fromP x0.B.lo x0.B.hi).lo)), .int .u64 (tn (maxU (fromP x0.A.lo x0.A.hi).hi (fromP x0.B.lo x0.B.hi).hi))]) rfl rfl (by rfl) (by intro x hx; have f0 := hx.load 3 0 rfl rfl; have f1 := hx.load 3 1 rfl rfl; go_simp; (first | done | exact rfl)) ?_
    simp only [List.set_cons_succ, List.set_cons_zero]
    refine lin_call (i := 49) (f := 21) (args := #[.agg #[.int .u64 (tn ((fromP x0.A.lo x0.A.hi).lo)), .int .u64 (tn ((fromP x0.A.lo x0.A.hi).hi))], .agg #[.int .u64 (tn (minU (fromP x0.A.lo x0.A.hi).lo (fromP x0.B.lo x0.B.hi).lo)), .int .u64 (tn (maxU (fromP x0.A.lo x0.A.hi).hi (fromP x0.B.lo x0.B.hi).hi))]]) (v := .bool true) (st_ups _ _) rfl rfl (by rfl) (fun x hx => by kernel_rfl) (by intro x hx; exact calls_is (span_Within_any (fromP x0.A.lo x0.A.hi) (P.mk (minU (fromP x0.A.lo x0.A.hi).lo (fromP x0.B.lo x0.B.hi).lo) (maxU (fromP x0.A.lo x0.A.hi).hi (fromP x0.B.lo x0.B.hi).hi)) _) (congrArg Value.bool (within_of (join_l _ _)))) ?_
    simp only [List.set_cons_succ, List.set_cons_zero]
    refine lin_val (i := 50) (v := .bool true) rfl rfl (by rfl) (by intro x hx; go_simp; (first | done | exact rfl)) ?_
    simp only [List.set_cons_succ, List.set_cons_zero]
    refine lin_val (i := 51) (v := .bool true) rfl rfl (by rfl) (by intro x hx; go_simp; (first | done | exact rfl)) ?_
    simp only [List.set_cons_succ, List.set_cons_zero]
    refine lin_val (i := 52) (v := .agg #[.int .u64 (tn ((fromP x0.B.lo x0.B.hi).lo)), .int .u64 (tn ((fromP x0.B.lo x0.B.hi).hi))]) rfl rfl (by rfl) (by intro x hx; have f0 := hx.load 2 0 rfl rfl; have f1 := hx.load 2 1 rfl rfl; go_simp; (first | done | exact rfl)) ?_
    simp only [List.set_cons_succ, List.set_cons_zero]
    refine lin_val (i := 53) (v := .agg #[.int .u64 (tn (minU (fromP x0.A.lo x0.A.hi).lo (fromP x0.B.lo x0.B.hi).lo)), .int .u64 (tn (maxU (fromP x0.A.lo x0.A.hi).hi (fromP x0.B.lo x0.B.hi).hi))]) rfl rfl (by rfl) (by intro x hx; have f0 := hx.load 3 0 rfl rfl; have f1 := hx.load 3 1 rfl rfl; go_simp; (first | done | exact rfl)) ?_
    simp only [List.set_cons_succ, List.set_cons_zero]
    refine lin_call (i := 54) (f := 21) (args := #[.agg #[.int .u64 (tn ((fromP x0.B.lo x0.B.hi).lo)), .int .u64 (tn ((fromP x0.B.lo x0.B.hi).hi))], .agg #[.int .u64 (tn (minU (fromP x0.A.lo x0.A.hi).lo (fromP x0.B.lo x0.B.hi).lo)), .int .u64 (tn (maxU (fromP x0.A.lo x0.A.hi).hi (fromP x0.B.lo x0.B.hi).hi))]]) (v := .bool true) (st_ups _ _) rfl rfl (by rfl) (fun x hx => by kernel_rfl) (by intro x hx; exact calls_is (span_Within_any (fromP x0.B.lo x0.B.hi) (P.mk (minU (fromP x0.A.lo x0.A.hi).lo (fromP x0.B.lo x0.B.hi).lo) (maxU (fromP x0.A.lo x0.A.hi).hi (fromP x0.B.lo x0.B.hi).hi)) _) (congrArg Value.bool (within_of (join_r _ _)))) ?_
    simp only [List.set_cons_succ, List.set_cons_zero]
    refine lin_val (i := 55) (v := .bool true) rfl rfl (by rfl) (by intro x hx; go_simp; (first | done | exact rfl)) ?_
    simp only [List.set_cons_succ, List.set_cons_zero]
    refine lin_val (i := 56) (v := .bool true) rfl rfl (by rfl) (by intro x hx; go_simp; (first | done | exact rfl)) ?_
    simp only [List.set_cons_succ, List.set_cons_zero]
    refine lin_call (i := 57) (f := 12) (args := #[]) (v := .bool true) (st_ups _ _) rfl rfl (by rfl) (fun x hx => by kernel_rfl) (by intro x hx; exact law_known_any _) ?_
    simp only [List.set_cons_succ, List.set_cons_zero]
    refine lin_val (i := 58) (v := .bool true) rfl rfl (by rfl) (by intro x hx; go_simp; (first | done | exact rfl)) ?_
    simp only [List.set_cons_succ, List.set_cons_zero]
    refine lin_val (i := 59) (v := .bool true) rfl rfl (by rfl) (by intro x hx; go_simp; (first | done | exact rfl)) ?_
    simp only [List.set_cons_succ, List.set_cons_zero]
    refine lin_done ?_
    intro W27 hx
    replace HS := hid hx
    clear hx
    go_wp2
    exact bodyPost_ret (v := .bool true) (by simp [results, Try.results9, go_sem]) rfl ⟨rfl, HS.out.below⟩
end Go.Proofs.Ytoojdndfjfmemaa.Sp
