/-
  The walk of the law SpanTells.
-/
import Derived.Deep.DeepCutAuto
import Derived.Test.YtoojdndfjfmemaaSpF
namespace Go.Proofs.Ytoojdndfjfmemaa.Sp
open Go.RowKit Go.Proofs.Ytoojdndfjfmemaa.Num Go.Proofs.Ytoojdndfjfmemaa.Up
set_option maxRecDepth 100000 in
set_option maxHeartbeats 4000000 in
theorem tells_yes (x0 : P) (x1 : P) (x2 : BitVec 64) (ha : leU x0.lo x0.hi = true) (hb : leU x1.lo x1.hi = true) (w : World) :
    Calls Try.prog 3 #[.agg #[.int .u64 (tn (x0.lo)), .int .u64 (tn (x0.hi))], .agg #[.int .u64 (tn (x1.lo)), .int .u64 (tn (x1.hi))], .int .i64 (ti (x2))] w fun e w' => e = .returned (.bool true) ∧ Below w.heap.size w w' := by
  have Hha := hid ha
  clear ha
  have Hhb := hid hb
  clear hb
  go_enter Try.func3, Try.ntmps3
  have HS := hid (((st_nil w).alloc (k := w.heap.size) rfl [.int .u64 (tn (x0.lo)), .int .u64 (tn (x0.hi))] 24).alloc (k := w.heap.size + 1) (by simp) [.int .u64 (tn (x1.lo)), .int .u64 (tn (x1.hi))] 24)
  -- region 1
  go_upto_region 1 with fail
  refine lin_begin (St w [⟨w.heap.size, [some (.int .u64 (tn (x0.lo))), some (.int .u64 (tn (x0.hi)))], 24⟩, ⟨w.heap.size + 1, [some (.int .u64 (tn (x1.lo))), some (.int .u64 (tn (x1.hi)))], 24⟩]) rfl HS.out ?_
  refine lin_val (i := 0) (v := .agg #[.int .u64 (tn (x0.lo)), .int .u64 (tn (x0.hi))]) rfl rfl (by rfl) (by intro x hx; have f0 := hx.load 0 0 rfl rfl; have f1 := hx.load 0 1 rfl rfl; go_simp; (first | done | exact rfl)) ?_
  simp only [List.set_cons_succ, List.set_cons_zero]
  refine lin_call (i := 1) (f := 11) (args := #[.agg #[.int .u64 (tn (x0.lo)), .int .u64 (tn (x0.hi))]]) (v := .bool true) (st_ups _ _) rfl rfl (by rfl) (fun x hx => by kernel_rfl) (by intro x hx; exact calls_is (ref_May_any x0 _) (congrArg Value.bool (Hha.out))) ?_
  simp only [List.set_cons_succ, List.set_cons_zero]
  refine lin_val (i := 2) (v := .bool false) rfl rfl (by rfl) (by intro x hx; go_simp; (first | done | exact rfl)) ?_
  simp only [List.set_cons_succ, List.set_cons_zero]
  refine lin_val (i := 3) (v := .bool false) rfl rfl (by rfl) (by intro x hx; go_simp; (first | done | exact rfl)) ?_
  simp only [List.set_cons_succ, List.set_cons_zero]
  refine lin_val (i := 4) (v := .agg #[.int .u64 (tn (x1.lo)), .int .u64 (tn (x1.hi))]) rfl rfl (by rfl) (by intro x hx; have f0 := hx.load 1 0 rfl rfl; have f1 := hx.load 1 1 rfl rfl; go_simp; (first | done | exact rfl)) ?_
  simp only [List.set_cons_succ, List.set_cons_zero]
  refine lin_call (i := 5) (f := 11) (args := #[.agg #[.int .u64 (tn (x1.lo)), .int .u64 (tn (x1.hi))]]) (v := .bool true) (st_ups _ _) rfl rfl (by rfl) (fun x hx => by kernel_rfl) (by intro x hx; exact calls_is (ref_May_any x1 _) (congrArg Value.bool (Hhb.out))) ?_
  simp only [List.set_cons_succ, List.set_cons_zero]
  refine lin_val (i := 6) (v := .bool false) rfl rfl (by rfl) (by intro x hx; go_simp; (first | done | exact rfl)) ?_
  simp only [List.set_cons_succ, List.set_cons_zero]
  refine lin_val (i := 7) (v := .bool false) rfl rfl (by rfl) (by intro x hx; go_simp; (first | done | exact rfl)) ?_
  simp only [List.set_cons_succ, List.set_cons_zero]
  refine lin_done ?_
  intro W1 hx
  replace HS := hid hx
  clear hx
  -- region 3
  go_upto_region 3 with fail
  refine lin_begin (St w [⟨w.heap.size, [some (.int .u64 (tn (x0.lo))), some (.int .u64 (tn (x0.hi)))], 24⟩, ⟨w.heap.size + 1, [some (.int .u64 (tn (x1.lo))), some (.int .u64 (tn (x1.hi)))], 24⟩]) rfl HS.out ?_
  refine lin_val (i := 0) (v := .agg #[.int .u64 (tn (x0.lo)), .int .u64 (tn (x0.hi))]) rfl rfl (by rfl) (by intro x hx; have f0 := hx.load 0 0 rfl rfl; have f1 := hx.load 0 1 rfl rfl; go_simp; (first | done | exact rfl)) ?_
  simp only [List.set_cons_succ, List.set_cons_zero]
  refine lin_val (i := 1) (v := .agg #[.int .u64 (tn (x1.lo)), .int .u64 (tn (x1.hi))]) rfl rfl (by rfl) (by intro x hx; have f0 := hx.load 1 0 rfl rfl; have f1 := hx.load 1 1 rfl rfl; go_simp; (first | done | exact rfl)) ?_
  simp only [List.set_cons_succ, List.set_cons_zero]
  refine lin_call (i := 2) (f := 13) (args := #[.agg #[.int .u64 (tn (x0.lo)), .int .u64 (tn (x0.hi))], .agg #[.int .u64 (tn (x1.lo)), .int .u64 (tn (x1.hi))]]) (v := .tuple #[.agg #[.int .u64 (tn (((span_meet_uint64 x0 x1).1).lo)), .int .u64 (tn (((span_meet_uint64 x0 x1).1).hi))], .bool ((span_meet_uint64 x0 x1).2)]) (st_ups _ _) rfl rfl (by rfl) (fun x hx => by kernel_rfl) (by intro x hx; exact span_Meet_any x0 x1 _) ?_
  simp only [List.set_cons_succ, List.set_cons_zero]
  refine lin_val (i := 3) (v := .tuple #[.agg #[.int .u64 (tn (((span_meet_uint64 x0 x1).1).lo)), .int .u64 (tn (((span_meet_uint64 x0 x1).1).hi))], .bool ((span_meet_uint64 x0 x1).2)]) rfl rfl (by rfl) (by intro x hx; go_simp; (first | done | exact rfl)) ?_
  simp only [List.set_cons_succ, List.set_cons_zero]
  refine lin_val (i := 4) (v := .agg #[.int .u64 (tn (((span_meet_uint64 x0 x1).1).lo)), .int .u64 (tn (((span_meet_uint64 x0 x1).1).hi))]) rfl rfl (by rfl) (by intro x hx; go_simp; (first | done | exact rfl)) ?_
  simp only [List.set_cons_succ, List.set_cons_zero]
  refine lin_val (i := 5) (v := .bool ((span_meet_uint64 x0 x1).2)) rfl rfl (by rfl) (by intro x hx; go_simp; (first | done | exact rfl)) ?_
  simp only [List.set_cons_succ, List.set_cons_zero]
  refine lin_new (i := 6) rfl rfl (by rfl) [.int .u64 0, .int .u64 0] 24 (fun k => .pointer (some ⟨k, 0, none⟩)) [some (.int .u64 0), some (.int .u64 0)] (lessC_eq (lessC_eq (trivial))) (by intro x hx; go_simp; (first | done | exact rfl)) (fun k1 => ?_)
  simp only [List.set_cons_succ, List.set_cons_zero]
  refine lin_store (i := 7) (St w [⟨w.heap.size, [some (.int .u64 (tn (x0.lo))), some (.int .u64 (tn (x0.hi)))], 24⟩, ⟨w.heap.size + 1, [some (.int .u64 (tn (x1.lo))), some (.int .u64 (tn (x1.hi)))], 24⟩, ⟨k1, [some (.int .u64 (tn (((span_meet_uint64 x0 x1).1).lo))), some (.int .u64 (tn (((span_meet_uint64 x0 x1).1).hi)))], 24⟩]) rfl rfl (by rfl) (fun x => ((x.setCell ⟨k1, 0, none⟩ (.int .u64 (tn (((span_meet_uint64 x0 x1).1).lo)))).setCell ⟨k1, 1, none⟩ (.int .u64 (tn (((span_meet_uint64 x0 x1).1).hi))))) (by intro x hx; obtain ⟨u0, z0⟩ := hx.has 2 0 rfl (by simp); have q0 := hx.soft 2 0 rfl; obtain ⟨u1, z1⟩ := hx.has 2 1 rfl (by simp); have q1 := hx.soft 2 1 rfl; go_simp; (first | done | rfl)) (fun x hx => ((hx.put 2 0 (.int .u64 (tn (((span_meet_uint64 x0 x1).1).lo))) rfl).put 2 1 (.int .u64 (tn (((span_meet_uint64 x0 x1).1).hi))) rfl)) ?_
  refine lin_val (i := 8) (v := .bool ((span_meet_uint64 x0 x1).2)) rfl rfl (by rfl) (by intro x hx; go_simp; (first | done | exact rfl)) ?_
  simp only [List.set_cons_succ, List.set_cons_zero]
  refine lin_done ?_
  intro W2 hx
  replace HS := hid hx
  clear hx
  -- region 4
  go_upto_region 4 with fail
  refine lin_begin (St w [⟨w.heap.size, [some (.int .u64 (tn (x0.lo))), some (.int .u64 (tn (x0.hi)))], 24⟩, ⟨w.heap.size + 1, [some (.int .u64 (tn (x1.lo))), some (.int .u64 (tn (x1.hi)))], 24⟩, ⟨k1, [some (.int .u64 (tn (((span_meet_uint64 x0 x1).1).lo))), some (.int .u64 (tn (((span_meet_uint64 x0 x1).1).hi)))], 24⟩]) rfl HS.out ?_
  refine lin_val (i := 0) (v := .agg #[.int .u64 (tn (x0.lo)), .int .u64 (tn (x0.hi))]) rfl rfl (by rfl) (by intro x hx; have f0 := hx.load 0 0 rfl rfl; have f1 := hx.load 0 1 rfl rfl; go_simp; (first | done | exact rfl)) ?_
  simp only [List.set_cons_succ, List.set_cons_zero]
  refine lin_val (i := 1) (v := .agg #[.int .u64 (tn (x1.lo)), .int .u64 (tn (x1.hi))]) rfl rfl (by rfl) (by intro x hx; have f0 := hx.load 1 0 rfl rfl; have f1 := hx.load 1 1 rfl rfl; go_simp; (first | done | exact rfl)) ?_
  simp only [List.set_cons_succ, List.set_cons_zero]
  refine lin_call (i := 2) (f := 14) (args := #[.agg #[.int .u64 (tn (x0.lo)), .int .u64 (tn (x0.hi))], .agg #[.int .u64 (tn (x1.lo)), .int .u64 (tn (x1.hi))]]) (v := .tuple #[.agg #[.int .u64 (tn (((span_meet_uint64 x0 x1).1).lo)), .int .u64 (tn (((span_meet_uint64 x0 x1).1).hi))], .bool ((span_meet_uint64 x0 x1).2)]) (st_ups _ _) rfl rfl (by rfl) (fun x hx => by kernel_rfl) (by intro x hx; exact calls_is (ref_Meet_any x0 x1 _) (congrArg (fun rr : P × Bool => (.tuple #[.agg #[.int .u64 (tn (rr.1.lo)), .int .u64 (tn (rr.1.hi))], .bool (rr.2)] : Value)) (meet_is x0 x1))) ?_
  simp only [List.set_cons_succ, List.set_cons_zero]
  refine lin_val (i := 3) (v := .tuple #[.agg #[.int .u64 (tn (((span_meet_uint64 x0 x1).1).lo)), .int .u64 (tn (((span_meet_uint64 x0 x1).1).hi))], .bool ((span_meet_uint64 x0 x1).2)]) rfl rfl (by rfl) (by intro x hx; go_simp; (first | done | exact rfl)) ?_
  simp only [List.set_cons_succ, List.set_cons_zero]
  refine lin_val (i := 4) (v := .agg #[.int .u64 (tn (((span_meet_uint64 x0 x1).1).lo)), .int .u64 (tn (((span_meet_uint64 x0 x1).1).hi))]) rfl rfl (by rfl) (by intro x hx; go_simp; (first | done | exact rfl)) ?_
  simp only [List.set_cons_succ, List.set_cons_zero]
  refine lin_val (i := 5) (v := .bool ((span_meet_uint64 x0 x1).2)) rfl rfl (by rfl) (by intro x hx; go_simp; (first | done | exact rfl)) ?_
  simp only [List.set_cons_succ, List.set_cons_zero]
  refine lin_new (i := 6) rfl rfl (by rfl) [.int .u64 0, .int .u64 0] 24 (fun k => .pointer (some ⟨k, 0, none⟩)) [some (.int .u64 0), some (.int .u64 0)] (lessC_eq (lessC_eq (trivial))) (by intro x hx; go_simp; (first | done | exact rfl)) (fun k2 => ?_)
  simp only [List.set_cons_succ, List.set_cons_zero]
  refine lin_store (i := 7) (St w [⟨w.heap.size, [some (.int .u64 (tn (x0.lo))), some (.int .u64 (tn (x0.hi)))], 24⟩, ⟨w.heap.size + 1, [some (.int .u64 (tn (x1.lo))), some (.int .u64 (tn (x1.hi)))], 24⟩, ⟨k1, [some (.int .u64 (tn (((span_meet_uint64 x0 x1).1).lo))), some (.int .u64 (tn (((span_meet_uint64 x0 x1).1).hi)))], 24⟩, ⟨k2, [some (.int .u64 (tn (((span_meet_uint64 x0 x1).1).lo))), some (.int .u64 (tn (((span_meet_uint64 x0 x1).1).hi)))], 24⟩]) rfl rfl (by rfl) (fun x => ((x.setCell ⟨k2, 0, none⟩ (.int .u64 (tn (((span_meet_uint64 x0 x1).1).lo)))).setCell ⟨k2, 1, none⟩ (.int .u64 (tn (((span_meet_uint64 x0 x1).1).hi))))) (by intro x hx; obtain ⟨u0, z0⟩ := hx.has 3 0 rfl (by simp); have q0 := hx.soft 3 0 rfl; obtain ⟨u1, z1⟩ := hx.has 3 1 rfl (by simp); have q1 := hx.soft 3 1 rfl; go_simp; (first | done | rfl)) (fun x hx => ((hx.put 3 0 (.int .u64 (tn (((span_meet_uint64 x0 x1).1).lo))) rfl).put 3 1 (.int .u64 (tn (((span_meet_uint64 x0 x1).1).hi))) rfl)) ?_
  refine lin_val (i := 8) (v := .bool ((span_meet_uint64 x0 x1).2)) rfl rfl (by rfl) (by intro x hx; go_simp; (first | done | exact rfl)) ?_
  simp only [List.set_cons_succ, List.set_cons_zero]
  refine lin_done ?_
  intro W3 hx
  replace HS := hid hx
  clear hx
  -- region 5
  go_upto_region 5 with fail
  refine lin_begin (St w [⟨w.heap.size, [some (.int .u64 (tn (x0.lo))), some (.int .u64 (tn (x0.hi)))], 24⟩, ⟨w.heap.size + 1, [some (.int .u64 (tn (x1.lo))), some (.int .u64 (tn (x1.hi)))], 24⟩, ⟨k1, [some (.int .u64 (tn (((span_meet_uint64 x0 x1).1).lo))), some (.int .u64 (tn (((span_meet_uint64 x0 x1).1).hi)))], 24⟩, ⟨k2, [some (.int .u64 (tn (((span_meet_uint64 x0 x1).1).lo))), some (.int .u64 (tn (((span_meet_uint64 x0 x1).1).hi)))], 24⟩]) rfl HS.out ?_
  refine lin_val (i := 0) (v := .pointer (some ⟨w.heap.size + 1, 0, none⟩)) rfl rfl (by rfl) (by intro x hx; go_simp; (first | done | exact rfl)) ?_
  simp only [List.set_cons_succ, List.set_cons_zero]
  refine lin_val (i := 1) (v := .int .u64 (tn (x1.lo))) rfl rfl (by rfl) (by intro x hx; have f0 := hx.load 1 0 rfl rfl; go_simp; (first | done | exact rfl)) ?_
  simp only [List.set_cons_succ, List.set_cons_zero]
  refine lin_val (i := 2) (v := .int .u64 (tn (x1.lo))) rfl rfl (by rfl) (by intro x hx; go_simp; (first | done | exact rfl)) ?_
  simp only [List.set_cons_succ, List.set_cons_zero]
  refine lin_done ?_
  intro W4 hx
  replace HS := hid hx
  clear hx
  -- region 6
  go_upto_region 6 with fail
  refine up_begin (St w [⟨w.heap.size, [some (.int .u64 (tn (x0.lo))), some (.int .u64 (tn (x0.hi)))], 24⟩, ⟨w.heap.size + 1, [some (.int .u64 (tn (x1.lo))), some (.int .u64 (tn (x1.hi)))], 24⟩, ⟨k1, [some (.int .u64 (tn (((span_meet_uint64 x0 x1).1).lo))), some (.int .u64 (tn (((span_meet_uint64 x0 x1).1).hi)))], 24⟩, ⟨k2, [some (.int .u64 (tn (((span_meet_uint64 x0 x1).1).lo))), some (.int .u64 (tn (((span_meet_uint64 x0 x1).1).hi)))], 24⟩]) 47 rfl (by kernel_rfl) (HS.out.drew) ?_
  refine take_val (i := 0) (v := .int .u64 (tn (x1.lo))) (st_ups _ _) rfl rfl (by kernel_rfl) (fun _ _ _ h => h) (by rfl) (by intro x hx; go_simp; (first | done | exact rfl)) ?_
  simp only [List.set_cons_succ, List.set_cons_zero]
  refine take_call (i := 1) (f := 15) (args := #[.int .u64 (tn (x1.lo))]) (v := .agg #[.int .u64 (tn (x1.lo)), .int .u64 (tn (x1.lo))]) (st_ups _ _) rfl rfl (by kernel_rfl) (fun _ _ _ h => h) (by rfl) (fun x hx => by kernel_rfl) (by intro x hx; exact span_Of_any x1.lo _) ?_
  simp only [List.set_cons_succ, List.set_cons_zero]
  refine take_val (i := 2) (v := .int .u64 (tn (x1.lo))) (st_ups _ _) rfl rfl (by kernel_rfl) (fun _ _ _ h => h) (by rfl) (by intro x hx; go_simp; (first | done | exact rfl)) ?_
  simp only [List.set_cons_succ, List.set_cons_zero]
  refine take_call (i := 3) (f := 16) (args := #[.int .u64 (tn (x1.lo))]) (v := .agg #[.int .u64 (tn (x1.lo)), .int .u64 (tn (x1.lo))]) (st_ups _ _) rfl rfl (by kernel_rfl) (fun _ _ _ h => h) (by rfl) (fun x hx => by kernel_rfl) (by intro x hx; exact ref_Of_any x1.lo _) ?_
  simp only [List.set_cons_succ, List.set_cons_zero]
  refine take_val (i := 4) (v := .bool false) (st_ups _ _) rfl rfl (by kernel_rfl) (fun _ _ _ h => h) (by rfl) (by intro x hx; go_simp; (first | done | exact rfl)) ?_
  simp only [List.set_cons_succ, List.set_cons_zero]
  refine take_val (i := 5) (v := .bool false) (st_ups _ _) rfl rfl (by kernel_rfl) (fun _ _ _ h => h) (by rfl) (by intro x hx; go_simp; (first | done | exact rfl)) ?_
  simp only [List.set_cons_succ, List.set_cons_zero]
  refine take_call (i := 6) (f := 17) (args := #[]) (v := .agg #[.int .u64 (tn (0#64)), .int .u64 (tn (18446744073709551615#64))]) (st_ups _ _) rfl rfl (by kernel_rfl) (fun _ _ _ h => h) (by rfl) (fun x hx => by kernel_rfl) (by intro x hx; exact span_All_any _) ?_
  simp only [List.set_cons_succ, List.set_cons_zero]
  refine take_call (i := 7) (f := 18) (args := #[]) (v := .agg #[.int .u64 (tn (0#64)), .int .u64 (tn (18446744073709551615#64))]) (st_ups _ _) rfl rfl (by kernel_rfl) (fun _ _ _ h => h) (by rfl) (fun x hx => by kernel_rfl) (by intro x hx; exact ref_All_any _) ?_
  simp only [List.set_cons_succ, List.set_cons_zero]
  refine take_val (i := 8) (v := .bool false) (st_ups _ _) rfl rfl (by kernel_rfl) (fun _ _ _ h => h) (by rfl) (by intro x hx; go_simp; (first | done | exact rfl)) ?_
  simp only [List.set_cons_succ, List.set_cons_zero]
  refine take_val (i := 9) (v := .bool false) (st_ups _ _) rfl rfl (by kernel_rfl) (fun _ _ _ h => h) (by rfl) (by intro x hx; go_simp; (first | done | exact rfl)) ?_
  simp only [List.set_cons_succ, List.set_cons_zero]
  refine take_val (i := 10) (v := .bool false) (st_ups _ _) rfl rfl (by kernel_rfl) (fun _ _ _ h => h) (by rfl) (by intro x hx; go_simp; (first | done | exact rfl)) ?_
  simp only [List.set_cons_succ, List.set_cons_zero]
  refine take_val (i := 11) (v := .agg #[.int .u64 (tn (x0.lo)), .int .u64 (tn (x0.hi))]) (st_ups _ _) rfl rfl (by kernel_rfl) (fun _ _ _ h => h) (by rfl) (by intro x hx; have f0 := hx.load 0 0 rfl rfl; have f1 := hx.load 0 1 rfl rfl; go_simp; (first | done | exact rfl)) ?_
  simp only [List.set_cons_succ, List.set_cons_zero]
  refine take_val (i := 12) (v := .int .u64 (tn (x1.lo))) (st_ups _ _) rfl rfl (by kernel_rfl) (fun _ _ _ h => h) (by rfl) (by intro x hx; go_simp; (first | done | exact rfl)) ?_
  simp only [List.set_cons_succ, List.set_cons_zero]
  refine take_call (i := 13) (f := 19) (args := #[.agg #[.int .u64 (tn (x0.lo)), .int .u64 (tn (x0.hi))], .int .u64 (tn (x1.lo))]) (v := .bool (span_within_uint64 (P.mk x1.lo x1.lo) x0)) (st_ups _ _) rfl rfl (by kernel_rfl) (fun _ _ _ h => h) (by rfl) (fun x hx => by kernel_rfl) (by intro x hx; exact span_In_any x0 x1.lo _) ?_
  simp only [List.set_cons_succ, List.set_cons_zero]
  refine take_val (i := 14) (v := .agg #[.int .u64 (tn (x0.lo)), .int .u64 (tn (x0.hi))]) (st_ups _ _) rfl rfl (by kernel_rfl) (fun _ _ _ h => h) (by rfl) (by intro x hx; have f0 := hx.load 0 0 rfl rfl; have f1 := hx.load 0 1 rfl rfl; go_simp; (first | done | exact rfl)) ?_
  simp only [List.set_cons_succ, List.set_cons_zero]
  refine take_val (i := 15) (v := .int .u64 (tn (x1.lo))) (st_ups _ _) rfl rfl (by kernel_rfl) (fun _ _ _ h => h) (by rfl) (by intro x hx; go_simp; (first | done | exact rfl)) ?_
  simp only [List.set_cons_succ, List.set_cons_zero]
  refine take_call (i := 16) (f := 20) (args := #[.agg #[.int .u64 (tn (x0.lo)), .int .u64 (tn (x0.hi))], .int .u64 (tn (x1.lo))]) (v := .bool (span_within_uint64 (P.mk x1.lo x1.lo) x0)) (st_ups _ _) rfl rfl (by kernel_rfl) (fun _ _ _ h => h) (by rfl) (fun x hx => by kernel_rfl) (by intro x hx; exact calls_is (ref_In_any x0 x1.lo _) (congrArg (fun rr : Bool => (.bool (rr) : Value)) (within_in x0 x1.lo))) ?_
  simp only [List.set_cons_succ, List.set_cons_zero]
  refine take_val (i := 17) (v := .bool false) (st_ups _ _) rfl rfl (by kernel_rfl) (fun _ _ _ h => h) (by rfl) (by intro x hx; go_simp; (first | done | rfl | simp)) ?_
  simp only [List.set_cons_succ, List.set_cons_zero]
  refine take_val (i := 18) (v := .bool false) (st_ups _ _) rfl rfl (by kernel_rfl) (fun _ _ _ h => h) (by rfl) (by intro x hx; go_simp; (first | done | exact rfl)) ?_
  simp only [List.set_cons_succ, List.set_cons_zero]
  refine take_val (i := 19) (v := .bool false) (st_ups _ _) rfl rfl (by kernel_rfl) (fun _ _ _ h => h) (by rfl) (by intro x hx; go_simp; (first | done | exact rfl)) ?_
  simp only [List.set_cons_succ, List.set_cons_zero]
  refine take_val (i := 20) (v := .agg #[.int .u64 (tn (x0.lo)), .int .u64 (tn (x0.hi))]) (st_ups _ _) rfl rfl (by kernel_rfl) (fun _ _ _ h => h) (by rfl) (by intro x hx; have f0 := hx.load 0 0 rfl rfl; have f1 := hx.load 0 1 rfl rfl; go_simp; (first | done | exact rfl)) ?_
  simp only [List.set_cons_succ, List.set_cons_zero]
  refine take_val (i := 21) (v := .agg #[.int .u64 (tn (x1.lo)), .int .u64 (tn (x1.hi))]) (st_ups _ _) rfl rfl (by kernel_rfl) (fun _ _ _ h => h) (by rfl) (by intro x hx; have f0 := hx.load 1 0 rfl rfl; have f1 := hx.load 1 1 rfl rfl; go_simp; (first | done | exact rfl)) ?_
  simp only [List.set_cons_succ, List.set_cons_zero]
  refine take_call (i := 22) (f := 21) (args := #[.agg #[.int .u64 (tn (x0.lo)), .int .u64 (tn (x0.hi))], .agg #[.int .u64 (tn (x1.lo)), .int .u64 (tn (x1.hi))]]) (v := .bool (span_within_uint64 x0 x1)) (st_ups _ _) rfl rfl (by kernel_rfl) (fun _ _ _ h => h) (by rfl) (fun x hx => by kernel_rfl) (by intro x hx; exact span_Within_any x0 x1 _) ?_
  simp only [List.set_cons_succ, List.set_cons_zero]
  refine take_val (i := 23) (v := .agg #[.int .u64 (tn (x0.lo)), .int .u64 (tn (x0.hi))]) (st_ups _ _) rfl rfl (by kernel_rfl) (fun _ _ _ h => h) (by rfl) (by intro x hx; have f0 := hx.load 0 0 rfl rfl; have f1 := hx.load 0 1 rfl rfl; go_simp; (first | done | exact rfl)) ?_
  simp only [List.set_cons_succ, List.set_cons_zero]
  refine take_val (i := 24) (v := .agg #[.int .u64 (tn (x1.lo)), .int .u64 (tn (x1.hi))]) (st_ups _ _) rfl rfl (by kernel_rfl) (fun _ _ _ h => h) (by rfl) (by intro x hx; have f0 := hx.load 1 0 rfl rfl; have f1 := hx.load 1 1 rfl rfl; go_simp; (first | done | exact rfl)) ?_
  simp only [List.set_cons_succ, List.set_cons_zero]
  refine take_call (i := 25) (f := 22) (args := #[.agg #[.int .u64 (tn (x0.lo)), .int .u64 (tn (x0.hi))], .agg #[.int .u64 (tn (x1.lo)), .int .u64 (tn (x1.hi))]]) (v := .bool (span_within_uint64 x0 x1)) (st_ups _ _) rfl rfl (by kernel_rfl) (fun _ _ _ h => h) (by rfl) (fun x hx => by kernel_rfl) (by intro x hx; exact calls_is (ref_Within_any x0 x1 _) (congrArg (fun rr : Bool => (.bool (rr) : Value)) (within_is x0 x1))) ?_
  simp only [List.set_cons_succ, List.set_cons_zero]
  refine take_val (i := 26) (v := .bool false) (st_ups _ _) rfl rfl (by kernel_rfl) (fun _ _ _ h => h) (by rfl) (by intro x hx; go_simp; (first | done | rfl | simp)) ?_
  simp only [List.set_cons_succ, List.set_cons_zero]
  refine take_val (i := 27) (v := .bool false) (st_ups _ _) rfl rfl (by kernel_rfl) (fun _ _ _ h => h) (by rfl) (by intro x hx; go_simp; (first | done | exact rfl)) ?_
  simp only [List.set_cons_succ, List.set_cons_zero]
  refine take_val (i := 28) (v := .bool false) (st_ups _ _) rfl rfl (by kernel_rfl) (fun _ _ _ h => h) (by rfl) (by intro x hx; go_simp; (first | done | exact rfl)) ?_
  simp only [List.set_cons_succ, List.set_cons_zero]
  refine take_val (i := 29) (v := .agg #[.int .u64 (tn (x0.lo)), .int .u64 (tn (x0.hi))]) (st_ups _ _) rfl rfl (by kernel_rfl) (fun _ _ _ h => h) (by rfl) (by intro x hx; have f0 := hx.load 0 0 rfl rfl; have f1 := hx.load 0 1 rfl rfl; go_simp; (first | done | exact rfl)) ?_
  simp only [List.set_cons_succ, List.set_cons_zero]
  refine take_val (i := 30) (v := .agg #[.int .u64 (tn (x1.lo)), .int .u64 (tn (x1.hi))]) (st_ups _ _) rfl rfl (by kernel_rfl) (fun _ _ _ h => h) (by rfl) (by intro x hx; have f0 := hx.load 1 0 rfl rfl; have f1 := hx.load 1 1 rfl rfl; go_simp; (first | done | exact rfl)) ?_
  simp only [List.set_cons_succ, List.set_cons_zero]
  refine take_call (i := 31) (f := 23) (args := #[.agg #[.int .u64 (tn (x0.lo)), .int .u64 (tn (x0.hi))], .agg #[.int .u64 (tn (x1.lo)), .int .u64 (tn (x1.hi))]]) (v := .agg #[.int .u64 (tn (minU x0.lo x1.lo)), .int .u64 (tn (maxU x0.hi x1.hi))]) (st_ups _ _) rfl rfl (by kernel_rfl) (fun _ _ _ h => h) (by rfl) (fun x hx => by kernel_rfl) (by intro x hx; exact span_Join_any x0 x1 _) ?_
  simp only [List.set_cons_succ, List.set_cons_zero]
  refine take_val (i := 32) (v := .agg #[.int .u64 (tn (x0.lo)), .int .u64 (tn (x0.hi))]) (st_ups _ _) rfl rfl (by kernel_rfl) (fun _ _ _ h => h) (by rfl) (by intro x hx; have f0 := hx.load 0 0 rfl rfl; have f1 := hx.load 0 1 rfl rfl; go_simp; (first | done | exact rfl)) ?_
  simp only [List.set_cons_succ, List.set_cons_zero]
  refine take_val (i := 33) (v := .agg #[.int .u64 (tn (x1.lo)), .int .u64 (tn (x1.hi))]) (st_ups _ _) rfl rfl (by kernel_rfl) (fun _ _ _ h => h) (by rfl) (by intro x hx; have f0 := hx.load 1 0 rfl rfl; have f1 := hx.load 1 1 rfl rfl; go_simp; (first | done | exact rfl)) ?_
  simp only [List.set_cons_succ, List.set_cons_zero]
  refine take_call (i := 34) (f := 24) (args := #[.agg #[.int .u64 (tn (x0.lo)), .int .u64 (tn (x0.hi))], .agg #[.int .u64 (tn (x1.lo)), .int .u64 (tn (x1.hi))]]) (v := .agg #[.int .u64 (tn (minU x0.lo x1.lo)), .int .u64 (tn (maxU x0.hi x1.hi))]) (st_ups _ _) rfl rfl (by kernel_rfl) (fun _ _ _ h => h) (by rfl) (fun x hx => by kernel_rfl) (by intro x hx; exact calls_is (ref_Join_any x0 x1 _) (congrArg (fun rr : P => (.agg #[.int .u64 (tn (rr.lo)), .int .u64 (tn (rr.hi))] : Value)) (join_is x0 x1))) ?_
  simp only [List.set_cons_succ, List.set_cons_zero]
  refine take_val (i := 35) (v := .bool false) (st_ups _ _) rfl rfl (by kernel_rfl) (fun _ _ _ h => h) (by rfl) (by intro x hx; go_simp; (first | done | exact rfl)) ?_
  simp only [List.set_cons_succ, List.set_cons_zero]
  refine take_val (i := 36) (v := .bool false) (st_ups _ _) rfl rfl (by kernel_rfl) (fun _ _ _ h => h) (by rfl) (by intro x hx; go_simp; (first | done | exact rfl)) ?_
  simp only [List.set_cons_succ, List.set_cons_zero]
  refine take_val (i := 37) (v := .bool false) (st_ups _ _) rfl rfl (by kernel_rfl) (fun _ _ _ h => h) (by rfl) (by intro x hx; go_simp; (first | done | exact rfl)) ?_
  simp only [List.set_cons_succ, List.set_cons_zero]
  refine take_val (i := 38) (v := .agg #[.int .u64 (tn (((span_meet_uint64 x0 x1).1).lo)), .int .u64 (tn (((span_meet_uint64 x0 x1).1).hi))]) (st_ups _ _) rfl rfl (by kernel_rfl) (fun _ _ _ h => h) (by rfl) (by intro x hx; have f0 := hx.load 2 0 rfl rfl; have f1 := hx.load 2 1 rfl rfl; go_simp; (first | done | exact rfl)) ?_
  simp only [List.set_cons_succ, List.set_cons_zero]
  refine take_val (i := 39) (v := .agg #[.int .u64 (tn (((span_meet_uint64 x0 x1).1).lo)), .int .u64 (tn (((span_meet_uint64 x0 x1).1).hi))]) (st_ups _ _) rfl rfl (by kernel_rfl) (fun _ _ _ h => h) (by rfl) (by intro x hx; have f0 := hx.load 3 0 rfl rfl; have f1 := hx.load 3 1 rfl rfl; go_simp; (first | done | exact rfl)) ?_
  simp only [List.set_cons_succ, List.set_cons_zero]
  refine take_val (i := 40) (v := .bool false) (st_ups _ _) rfl rfl (by kernel_rfl) (fun _ _ _ h => h) (by rfl) (by intro x hx; go_simp; (first | done | exact rfl)) ?_
  simp only [List.set_cons_succ, List.set_cons_zero]
  refine take_val (i := 41) (v := .bool false) (st_ups _ _) rfl rfl (by kernel_rfl) (fun _ _ _ h => h) (by rfl) (by intro x hx; go_simp; (first | done | exact rfl)) ?_
  simp only [List.set_cons_succ, List.set_cons_zero]
  refine take_val (i := 42) (v := .bool false) (st_ups _ _) rfl rfl (by kernel_rfl) (fun _ _ _ h => h) (by rfl) (by intro x hx; go_simp; (first | done | exact rfl)) ?_
  simp only [List.set_cons_succ, List.set_cons_zero]
  refine take_val (i := 43) (v := .bool ((span_meet_uint64 x0 x1).2)) (st_ups _ _) rfl rfl (by kernel_rfl) (fun _ _ _ h => h) (by rfl) (by intro x hx; go_simp; (first | done | exact rfl)) ?_
  simp only [List.set_cons_succ, List.set_cons_zero]
  refine take_val (i := 44) (v := .bool ((span_meet_uint64 x0 x1).2)) (st_ups _ _) rfl rfl (by kernel_rfl) (fun _ _ _ h => h) (by rfl) (by intro x hx; go_simp; (first | done | exact rfl)) ?_
  simp only [List.set_cons_succ, List.set_cons_zero]
  refine take_val (i := 45) (v := .bool false) (st_ups _ _) rfl rfl (by kernel_rfl) (fun _ _ _ h => h) (by rfl) (by intro x hx; go_simp; (first | done | rfl | simp)) ?_
  simp only [List.set_cons_succ, List.set_cons_zero]
  refine take_val (i := 46) (v := .bool false) (st_ups _ _) rfl rfl (by kernel_rfl) (fun _ _ _ h => h) (by rfl) (by intro x hx; go_simp; (first | done | exact rfl)) ?_
  simp only [List.set_cons_succ, List.set_cons_zero]
  refine take_done (by kernel_rfl) ?_ _
  intro W5 hx
  replace HS := hid hx
  clear hx
  -- region 8
  go_upto_region 8 with fail
  refine up_begin (St w [⟨w.heap.size, [some (.int .u64 (tn (x0.lo))), some (.int .u64 (tn (x0.hi)))], 24⟩, ⟨w.heap.size + 1, [some (.int .u64 (tn (x1.lo))), some (.int .u64 (tn (x1.hi)))], 24⟩, ⟨k1, [some (.int .u64 (tn (((span_meet_uint64 x0 x1).1).lo))), some (.int .u64 (tn (((span_meet_uint64 x0 x1).1).hi)))], 24⟩, ⟨k2, [some (.int .u64 (tn (((span_meet_uint64 x0 x1).1).lo))), some (.int .u64 (tn (((span_meet_uint64 x0 x1).1).hi)))], 24⟩]) 43 rfl (by kernel_rfl) (HS.out.drew) ?_
  refine take_val (i := 0) (v := .agg #[.int .u64 (tn (x0.lo)), .int .u64 (tn (x0.hi))]) (st_ups _ _) rfl rfl (by kernel_rfl) (fun _ _ _ h => h) (by rfl) (by intro x hx; have f0 := hx.load 0 0 rfl rfl; have f1 := hx.load 0 1 rfl rfl; go_simp; (first | done | exact rfl)) ?_
  simp only [List.set_cons_succ, List.set_cons_zero]
  refine take_val (i := 1) (v := .agg #[.int .u64 (tn (x1.lo)), .int .u64 (tn (x1.hi))]) (st_ups _ _) rfl rfl (by kernel_rfl) (fun _ _ _ h => h) (by rfl) (by intro x hx; have f0 := hx.load 1 0 rfl rfl; have f1 := hx.load 1 1 rfl rfl; go_simp; (first | done | exact rfl)) ?_
  simp only [List.set_cons_succ, List.set_cons_zero]
  refine take_call (i := 2) (f := 25) (args := #[.agg #[.int .u64 (tn (x0.lo)), .int .u64 (tn (x0.hi))], .agg #[.int .u64 (tn (x1.lo)), .int .u64 (tn (x1.hi))]]) (v := .agg #[.int .u64 (tn ((span_Add x0 x1).lo)), .int .u64 (tn ((span_Add x0 x1).hi))]) (st_ups _ _) rfl rfl (by kernel_rfl) (fun _ _ _ h => h) (by rfl) (fun x hx => by kernel_rfl) (by intro x hx; exact span_Add_any x0 x1 _) ?_
  simp only [List.set_cons_succ, List.set_cons_zero]
  refine take_val (i := 3) (v := .agg #[.int .u64 (tn (x0.lo)), .int .u64 (tn (x0.hi))]) (st_ups _ _) rfl rfl (by kernel_rfl) (fun _ _ _ h => h) (by rfl) (by intro x hx; have f0 := hx.load 0 0 rfl rfl; have f1 := hx.load 0 1 rfl rfl; go_simp; (first | done | exact rfl)) ?_
  simp only [List.set_cons_succ, List.set_cons_zero]
  refine take_val (i := 4) (v := .agg #[.int .u64 (tn (x1.lo)), .int .u64 (tn (x1.hi))]) (st_ups _ _) rfl rfl (by kernel_rfl) (fun _ _ _ h => h) (by rfl) (by intro x hx; have f0 := hx.load 1 0 rfl rfl; have f1 := hx.load 1 1 rfl rfl; go_simp; (first | done | exact rfl)) ?_
  simp only [List.set_cons_succ, List.set_cons_zero]
  refine take_call (i := 5) (f := 26) (args := #[.agg #[.int .u64 (tn (x0.lo)), .int .u64 (tn (x0.hi))], .agg #[.int .u64 (tn (x1.lo)), .int .u64 (tn (x1.hi))]]) (v := .agg #[.int .u64 (tn ((span_Add x0 x1).lo)), .int .u64 (tn ((span_Add x0 x1).hi))]) (st_ups _ _) rfl rfl (by kernel_rfl) (fun _ _ _ h => h) (by rfl) (fun x hx => by kernel_rfl) (by intro x hx; exact calls_is (ref_Add_any x0 x1 _) (congrArg (fun rr : P => (.agg #[.int .u64 (tn (rr.lo)), .int .u64 (tn (rr.hi))] : Value)) (add_is x0 x1))) ?_
  simp only [List.set_cons_succ, List.set_cons_zero]
  refine take_val (i := 6) (v := .bool false) (st_ups _ _) rfl rfl (by kernel_rfl) (fun _ _ _ h => h) (by rfl) (by intro x hx; go_simp; (first | done | exact rfl)) ?_
  simp only [List.set_cons_succ, List.set_cons_zero]
  refine take_val (i := 7) (v := .bool false) (st_ups _ _) rfl rfl (by kernel_rfl) (fun _ _ _ h => h) (by rfl) (by intro x hx; go_simp; (first | done | exact rfl)) ?_
  simp only [List.set_cons_succ, List.set_cons_zero]
  refine take_val (i := 8) (v := .agg #[.int .u64 (tn (x0.lo)), .int .u64 (tn (x0.hi))]) (st_ups _ _) rfl rfl (by kernel_rfl) (fun _ _ _ h => h) (by rfl) (by intro x hx; have f0 := hx.load 0 0 rfl rfl; have f1 := hx.load 0 1 rfl rfl; go_simp; (first | done | exact rfl)) ?_
  simp only [List.set_cons_succ, List.set_cons_zero]
  refine take_val (i := 9) (v := .agg #[.int .u64 (tn (x1.lo)), .int .u64 (tn (x1.hi))]) (st_ups _ _) rfl rfl (by kernel_rfl) (fun _ _ _ h => h) (by rfl) (by intro x hx; have f0 := hx.load 1 0 rfl rfl; have f1 := hx.load 1 1 rfl rfl; go_simp; (first | done | exact rfl)) ?_
  simp only [List.set_cons_succ, List.set_cons_zero]
  refine take_call (i := 10) (f := 27) (args := #[.agg #[.int .u64 (tn (x0.lo)), .int .u64 (tn (x0.hi))], .agg #[.int .u64 (tn (x1.lo)), .int .u64 (tn (x1.hi))]]) (v := .agg #[.int .u64 (tn ((span_Sub x0 x1).lo)), .int .u64 (tn ((span_Sub x0 x1).hi))]) (st_ups _ _) rfl rfl (by kernel_rfl) (fun _ _ _ h => h) (by rfl) (fun x hx => by kernel_rfl) (by intro x hx; exact span_Sub_any x0 x1 _) ?_
  simp only [List.set_cons_succ, List.set_cons_zero]
  refine take_val (i := 11) (v := .agg #[.int .u64 (tn (x0.lo)), .int .u64 (tn (x0.hi))]) (st_ups _ _) rfl rfl (by kernel_rfl) (fun _ _ _ h => h) (by rfl) (by intro x hx; have f0 := hx.load 0 0 rfl rfl; have f1 := hx.load 0 1 rfl rfl; go_simp; (first | done | exact rfl)) ?_
  simp only [List.set_cons_succ, List.set_cons_zero]
  refine take_val (i := 12) (v := .agg #[.int .u64 (tn (x1.lo)), .int .u64 (tn (x1.hi))]) (st_ups _ _) rfl rfl (by kernel_rfl) (fun _ _ _ h => h) (by rfl) (by intro x hx; have f0 := hx.load 1 0 rfl rfl; have f1 := hx.load 1 1 rfl rfl; go_simp; (first | done | exact rfl)) ?_
  simp only [List.set_cons_succ, List.set_cons_zero]
  refine take_call (i := 13) (f := 28) (args := #[.agg #[.int .u64 (tn (x0.lo)), .int .u64 (tn (x0.hi))], .agg #[.int .u64 (tn (x1.lo)), .int .u64 (tn (x1.hi))]]) (v := .agg #[.int .u64 (tn ((span_Sub x0 x1).lo)), .int .u64 (tn ((span_Sub x0 x1).hi))]) (st_ups _ _) rfl rfl (by kernel_rfl) (fun _ _ _ h => h) (by rfl) (fun x hx => by kernel_rfl) (by intro x hx; exact calls_is (ref_Sub_any x0 x1 _) (congrArg (fun rr : P => (.agg #[.int .u64 (tn (rr.lo)), .int .u64 (tn (rr.hi))] : Value)) (sub_is x0 x1))) ?_
  simp only [List.set_cons_succ, List.set_cons_zero]
  refine take_val (i := 14) (v := .bool false) (st_ups _ _) rfl rfl (by kernel_rfl) (fun _ _ _ h => h) (by rfl) (by intro x hx; go_simp; (first | done | exact rfl)) ?_
  simp only [List.set_cons_succ, List.set_cons_zero]
  refine take_val (i := 15) (v := .bool false) (st_ups _ _) rfl rfl (by kernel_rfl) (fun _ _ _ h => h) (by rfl) (by intro x hx; go_simp; (first | done | exact rfl)) ?_
  simp only [List.set_cons_succ, List.set_cons_zero]
  refine take_val (i := 16) (v := .bool false) (st_ups _ _) rfl rfl (by kernel_rfl) (fun _ _ _ h => h) (by rfl) (by intro x hx; go_simp; (first | done | exact rfl)) ?_
  simp only [List.set_cons_succ, List.set_cons_zero]
  refine take_val (i := 17) (v := .agg #[.int .u64 (tn (x0.lo)), .int .u64 (tn (x0.hi))]) (st_ups _ _) rfl rfl (by kernel_rfl) (fun _ _ _ h => h) (by rfl) (by intro x hx; have f0 := hx.load 0 0 rfl rfl; have f1 := hx.load 0 1 rfl rfl; go_simp; (first | done | exact rfl)) ?_
  simp only [List.set_cons_succ, List.set_cons_zero]
  refine take_val (i := 18) (v := .agg #[.int .u64 (tn (x1.lo)), .int .u64 (tn (x1.hi))]) (st_ups _ _) rfl rfl (by kernel_rfl) (fun _ _ _ h => h) (by rfl) (by intro x hx; have f0 := hx.load 1 0 rfl rfl; have f1 := hx.load 1 1 rfl rfl; go_simp; (first | done | exact rfl)) ?_
  simp only [List.set_cons_succ, List.set_cons_zero]
  refine take_call (i := 19) (f := 29) (args := #[.agg #[.int .u64 (tn (x0.lo)), .int .u64 (tn (x0.hi))], .agg #[.int .u64 (tn (x1.lo)), .int .u64 (tn (x1.hi))]]) (v := .agg #[.int .u64 (tn ((span_Mul x0 x1).lo)), .int .u64 (tn ((span_Mul x0 x1).hi))]) (st_ups _ _) rfl rfl (by kernel_rfl) (fun _ _ _ h => h) (by rfl) (fun x hx => by kernel_rfl) (by intro x hx; exact span_Mul_any x0 x1 _) ?_
  simp only [List.set_cons_succ, List.set_cons_zero]
  refine take_val (i := 20) (v := .agg #[.int .u64 (tn (x0.lo)), .int .u64 (tn (x0.hi))]) (st_ups _ _) rfl rfl (by kernel_rfl) (fun _ _ _ h => h) (by rfl) (by intro x hx; have f0 := hx.load 0 0 rfl rfl; have f1 := hx.load 0 1 rfl rfl; go_simp; (first | done | exact rfl)) ?_
  simp only [List.set_cons_succ, List.set_cons_zero]
  refine take_val (i := 21) (v := .agg #[.int .u64 (tn (x1.lo)), .int .u64 (tn (x1.hi))]) (st_ups _ _) rfl rfl (by kernel_rfl) (fun _ _ _ h => h) (by rfl) (by intro x hx; have f0 := hx.load 1 0 rfl rfl; have f1 := hx.load 1 1 rfl rfl; go_simp; (first | done | exact rfl)) ?_
  simp only [List.set_cons_succ, List.set_cons_zero]
  refine take_call (i := 22) (f := 30) (args := #[.agg #[.int .u64 (tn (x0.lo)), .int .u64 (tn (x0.hi))], .agg #[.int .u64 (tn (x1.lo)), .int .u64 (tn (x1.hi))]]) (v := .agg #[.int .u64 (tn ((span_Mul x0 x1).lo)), .int .u64 (tn ((span_Mul x0 x1).hi))]) (st_ups _ _) rfl rfl (by kernel_rfl) (fun _ _ _ h => h) (by rfl) (fun x hx => by kernel_rfl) (by intro x hx; exact calls_is (ref_Mul_any x0 x1 _) (congrArg (fun rr : P => (.agg #[.int .u64 (tn (rr.lo)), .int .u64 (tn (rr.hi))] : Value)) (mul_is x0 x1))) ?_
  simp only [List.set_cons_succ, List.set_cons_zero]
  refine take_val (i := 23) (v := .bool false) (st_ups _ _) rfl rfl (by kernel_rfl) (fun _ _ _ h => h) (by rfl) (by intro x hx; go_simp; (first | done | exact rfl)) ?_
  simp only [List.set_cons_succ, List.set_cons_zero]
  refine take_val (i := 24) (v := .bool false) (st_ups _ _) rfl rfl (by kernel_rfl) (fun _ _ _ h => h) (by rfl) (by intro x hx; go_simp; (first | done | exact rfl)) ?_
  simp only [List.set_cons_succ, List.set_cons_zero]
  refine take_val (i := 25) (v := .bool false) (st_ups _ _) rfl rfl (by kernel_rfl) (fun _ _ _ h => h) (by rfl) (by intro x hx; go_simp; (first | done | exact rfl)) ?_
  simp only [List.set_cons_succ, List.set_cons_zero]
  refine take_val (i := 26) (v := .agg #[.int .u64 (tn (x0.lo)), .int .u64 (tn (x0.hi))]) (st_ups _ _) rfl rfl (by kernel_rfl) (fun _ _ _ h => h) (by rfl) (by intro x hx; have f0 := hx.load 0 0 rfl rfl; have f1 := hx.load 0 1 rfl rfl; go_simp; (first | done | exact rfl)) ?_
  simp only [List.set_cons_succ, List.set_cons_zero]
  refine take_val (i := 27) (v := .agg #[.int .u64 (tn (x1.lo)), .int .u64 (tn (x1.hi))]) (st_ups _ _) rfl rfl (by kernel_rfl) (fun _ _ _ h => h) (by rfl) (by intro x hx; have f0 := hx.load 1 0 rfl rfl; have f1 := hx.load 1 1 rfl rfl; go_simp; (first | done | exact rfl)) ?_
  simp only [List.set_cons_succ, List.set_cons_zero]
  refine take_call (i := 28) (f := 31) (args := #[.agg #[.int .u64 (tn (x0.lo)), .int .u64 (tn (x0.hi))], .agg #[.int .u64 (tn (x1.lo)), .int .u64 (tn (x1.hi))]]) (v := .agg #[.int .u64 (tn ((span_Div x0 x1).lo)), .int .u64 (tn ((span_Div x0 x1).hi))]) (st_ups _ _) rfl rfl (by kernel_rfl) (fun _ _ _ h => h) (by rfl) (fun x hx => by kernel_rfl) (by intro x hx; exact span_Div_any x0 x1 _) ?_
  simp only [List.set_cons_succ, List.set_cons_zero]
  refine take_val (i := 29) (v := .agg #[.int .u64 (tn (x0.lo)), .int .u64 (tn (x0.hi))]) (st_ups _ _) rfl rfl (by kernel_rfl) (fun _ _ _ h => h) (by rfl) (by intro x hx; have f0 := hx.load 0 0 rfl rfl; have f1 := hx.load 0 1 rfl rfl; go_simp; (first | done | exact rfl)) ?_
  simp only [List.set_cons_succ, List.set_cons_zero]
  refine take_val (i := 30) (v := .agg #[.int .u64 (tn (x1.lo)), .int .u64 (tn (x1.hi))]) (st_ups _ _) rfl rfl (by kernel_rfl) (fun _ _ _ h => h) (by rfl) (by intro x hx; have f0 := hx.load 1 0 rfl rfl; have f1 := hx.load 1 1 rfl rfl; go_simp; (first | done | exact rfl)) ?_
  simp only [List.set_cons_succ, List.set_cons_zero]
  refine take_call (i := 31) (f := 32) (args := #[.agg #[.int .u64 (tn (x0.lo)), .int .u64 (tn (x0.hi))], .agg #[.int .u64 (tn (x1.lo)), .int .u64 (tn (x1.hi))]]) (v := .agg #[.int .u64 (tn ((span_Div x0 x1).lo)), .int .u64 (tn ((span_Div x0 x1).hi))]) (st_ups _ _) rfl rfl (by kernel_rfl) (fun _ _ _ h => h) (by rfl) (fun x hx => by kernel_rfl) (by intro x hx; exact calls_is (ref_Div_any x0 x1 Hhb.out _) (congrArg (fun rr : P => (.agg #[.int .u64 (tn (rr.lo)), .int .u64 (tn (rr.hi))] : Value)) (div_is x0 x1 Hhb.out))) ?_
  simp only [List.set_cons_succ, List.set_cons_zero]
  refine take_val (i := 32) (v := .bool false) (st_ups _ _) rfl rfl (by kernel_rfl) (fun _ _ _ h => h) (by rfl) (by intro x hx; go_simp; (first | done | exact rfl)) ?_
  simp only [List.set_cons_succ, List.set_cons_zero]
  refine take_val (i := 33) (v := .bool false) (st_ups _ _) rfl rfl (by kernel_rfl) (fun _ _ _ h => h) (by rfl) (by intro x hx; go_simp; (first | done | exact rfl)) ?_
  simp only [List.set_cons_succ, List.set_cons_zero]
  refine take_val (i := 34) (v := .bool false) (st_ups _ _) rfl rfl (by kernel_rfl) (fun _ _ _ h => h) (by rfl) (by intro x hx; go_simp; (first | done | exact rfl)) ?_
  simp only [List.set_cons_succ, List.set_cons_zero]
  refine take_val (i := 35) (v := .agg #[.int .u64 (tn (x0.lo)), .int .u64 (tn (x0.hi))]) (st_ups _ _) rfl rfl (by kernel_rfl) (fun _ _ _ h => h) (by rfl) (by intro x hx; have f0 := hx.load 0 0 rfl rfl; have f1 := hx.load 0 1 rfl rfl; go_simp; (first | done | exact rfl)) ?_
  simp only [List.set_cons_succ, List.set_cons_zero]
  refine take_val (i := 36) (v := .agg #[.int .u64 (tn (x1.lo)), .int .u64 (tn (x1.hi))]) (st_ups _ _) rfl rfl (by kernel_rfl) (fun _ _ _ h => h) (by rfl) (by intro x hx; have f0 := hx.load 1 0 rfl rfl; have f1 := hx.load 1 1 rfl rfl; go_simp; (first | done | exact rfl)) ?_
  simp only [List.set_cons_succ, List.set_cons_zero]
  refine take_call (i := 37) (f := 33) (args := #[.agg #[.int .u64 (tn (x0.lo)), .int .u64 (tn (x0.hi))], .agg #[.int .u64 (tn (x1.lo)), .int .u64 (tn (x1.hi))]]) (v := .agg #[.int .u64 (tn ((span_Mod x0 x1).lo)), .int .u64 (tn ((span_Mod x0 x1).hi))]) (st_ups _ _) rfl rfl (by kernel_rfl) (fun _ _ _ h => h) (by rfl) (fun x hx => by kernel_rfl) (by intro x hx; exact span_Mod_any x0 x1 _) ?_
  simp only [List.set_cons_succ, List.set_cons_zero]
  refine take_val (i := 38) (v := .agg #[.int .u64 (tn (x0.lo)), .int .u64 (tn (x0.hi))]) (st_ups _ _) rfl rfl (by kernel_rfl) (fun _ _ _ h => h) (by rfl) (by intro x hx; have f0 := hx.load 0 0 rfl rfl; have f1 := hx.load 0 1 rfl rfl; go_simp; (first | done | exact rfl)) ?_
  simp only [List.set_cons_succ, List.set_cons_zero]
  refine take_val (i := 39) (v := .agg #[.int .u64 (tn (x1.lo)), .int .u64 (tn (x1.hi))]) (st_ups _ _) rfl rfl (by kernel_rfl) (fun _ _ _ h => h) (by rfl) (by intro x hx; have f0 := hx.load 1 0 rfl rfl; have f1 := hx.load 1 1 rfl rfl; go_simp; (first | done | exact rfl)) ?_
  simp only [List.set_cons_succ, List.set_cons_zero]
  refine take_call (i := 40) (f := 34) (args := #[.agg #[.int .u64 (tn (x0.lo)), .int .u64 (tn (x0.hi))], .agg #[.int .u64 (tn (x1.lo)), .int .u64 (tn (x1.hi))]]) (v := .agg #[.int .u64 (tn ((span_Mod x0 x1).lo)), .int .u64 (tn ((span_Mod x0 x1).hi))]) (st_ups _ _) rfl rfl (by kernel_rfl) (fun _ _ _ h => h) (by rfl) (fun x hx => by kernel_rfl) (by intro x hx; exact calls_is (ref_Mod_any x0 x1 _) (congrArg (fun rr : P => (.agg #[.int .u64 (tn (rr.lo)), .int .u64 (tn (rr.hi))] : Value)) (mod_is x0 x1 Hhb.out))) ?_
  simp only [List.set_cons_succ, List.set_cons_zero]
  refine take_val (i := 41) (v := .bool false) (st_ups _ _) rfl rfl (by kernel_rfl) (fun _ _ _ h => h) (by rfl) (by intro x hx; go_simp; (first | done | exact rfl)) ?_
  simp only [List.set_cons_succ, List.set_cons_zero]
  refine take_val (i := 42) (v := .bool false) (st_ups _ _) rfl rfl (by kernel_rfl) (fun _ _ _ h => h) (by rfl) (by intro x hx; go_simp; (first | done | exact rfl)) ?_
  simp only [List.set_cons_succ, List.set_cons_zero]
  refine take_done (by kernel_rfl) ?_ _
  intro W6 hx
  replace HS := hid hx
  clear hx
  -- region 10
  go_upto_region 10 with fail
  refine up_begin (St w [⟨w.heap.size, [some (.int .u64 (tn (x0.lo))), some (.int .u64 (tn (x0.hi)))], 24⟩, ⟨w.heap.size + 1, [some (.int .u64 (tn (x1.lo))), some (.int .u64 (tn (x1.hi)))], 24⟩, ⟨k1, [some (.int .u64 (tn (((span_meet_uint64 x0 x1).1).lo))), some (.int .u64 (tn (((span_meet_uint64 x0 x1).1).hi)))], 24⟩, ⟨k2, [some (.int .u64 (tn (((span_meet_uint64 x0 x1).1).lo))), some (.int .u64 (tn (((span_meet_uint64 x0 x1).1).hi)))], 24⟩]) 54 rfl (by kernel_rfl) (HS.out.drew) ?_
  refine take_val (i := 0) (v := .agg #[.int .u64 (tn (x0.lo)), .int .u64 (tn (x0.hi))]) (st_ups _ _) rfl rfl (by kernel_rfl) (fun _ _ _ h => h) (by rfl) (by intro x hx; have f0 := hx.load 0 0 rfl rfl; have f1 := hx.load 0 1 rfl rfl; go_simp; (first | done | exact rfl)) ?_
  simp only [List.set_cons_succ, List.set_cons_zero]
  refine take_val (i := 1) (v := .agg #[.int .u64 (tn (x1.lo)), .int .u64 (tn (x1.hi))]) (st_ups _ _) rfl rfl (by kernel_rfl) (fun _ _ _ h => h) (by rfl) (by intro x hx; have f0 := hx.load 1 0 rfl rfl; have f1 := hx.load 1 1 rfl rfl; go_simp; (first | done | exact rfl)) ?_
  simp only [List.set_cons_succ, List.set_cons_zero]
  refine take_call (i := 2) (f := 35) (args := #[.agg #[.int .u64 (tn (x0.lo)), .int .u64 (tn (x0.hi))], .agg #[.int .u64 (tn (x1.lo)), .int .u64 (tn (x1.hi))]]) (v := .agg #[.int .u64 (tn (0#64)), .int .u64 (tn (minU x0.hi x1.hi))]) (st_ups _ _) rfl rfl (by kernel_rfl) (fun _ _ _ h => h) (by rfl) (fun x hx => by kernel_rfl) (by intro x hx; exact span_And_any x0 x1 _) ?_
  simp only [List.set_cons_succ, List.set_cons_zero]
  refine take_val (i := 3) (v := .agg #[.int .u64 (tn (x0.lo)), .int .u64 (tn (x0.hi))]) (st_ups _ _) rfl rfl (by kernel_rfl) (fun _ _ _ h => h) (by rfl) (by intro x hx; have f0 := hx.load 0 0 rfl rfl; have f1 := hx.load 0 1 rfl rfl; go_simp; (first | done | exact rfl)) ?_
  simp only [List.set_cons_succ, List.set_cons_zero]
  refine take_val (i := 4) (v := .agg #[.int .u64 (tn (x1.lo)), .int .u64 (tn (x1.hi))]) (st_ups _ _) rfl rfl (by kernel_rfl) (fun _ _ _ h => h) (by rfl) (by intro x hx; have f0 := hx.load 1 0 rfl rfl; have f1 := hx.load 1 1 rfl rfl; go_simp; (first | done | exact rfl)) ?_
  simp only [List.set_cons_succ, List.set_cons_zero]
  refine take_call (i := 5) (f := 36) (args := #[.agg #[.int .u64 (tn (x0.lo)), .int .u64 (tn (x0.hi))], .agg #[.int .u64 (tn (x1.lo)), .int .u64 (tn (x1.hi))]]) (v := .agg #[.int .u64 (tn (0#64)), .int .u64 (tn (minU x0.hi x1.hi))]) (st_ups _ _) rfl rfl (by kernel_rfl) (fun _ _ _ h => h) (by rfl) (fun x hx => by kernel_rfl) (by intro x hx; exact ref_And_any x0 x1 _) ?_
  simp only [List.set_cons_succ, List.set_cons_zero]
  refine take_val (i := 6) (v := .bool true) (st_ups _ _) rfl rfl (by kernel_rfl) (fun _ _ _ h => h) (by rfl) (by intro x hx; go_simp; (first | done | exact rfl)) ?_
  simp only [List.set_cons_succ, List.set_cons_zero]
  refine take_val (i := 7) (v := .bool true) (st_ups _ _) rfl rfl (by kernel_rfl) (fun _ _ _ h => h) (by rfl) (by intro x hx; go_simp; (first | done | exact rfl)) ?_
  simp only [List.set_cons_succ, List.set_cons_zero]
  refine take_val (i := 8) (v := .agg #[.int .u64 (tn (x0.lo)), .int .u64 (tn (x0.hi))]) (st_ups _ _) rfl rfl (by kernel_rfl) (fun _ _ _ h => h) (by rfl) (by intro x hx; have f0 := hx.load 0 0 rfl rfl; have f1 := hx.load 0 1 rfl rfl; go_simp; (first | done | exact rfl)) ?_
  simp only [List.set_cons_succ, List.set_cons_zero]
  refine take_val (i := 9) (v := .agg #[.int .u64 (tn (x1.lo)), .int .u64 (tn (x1.hi))]) (st_ups _ _) rfl rfl (by kernel_rfl) (fun _ _ _ h => h) (by rfl) (by intro x hx; have f0 := hx.load 1 0 rfl rfl; have f1 := hx.load 1 1 rfl rfl; go_simp; (first | done | exact rfl)) ?_
  simp only [List.set_cons_succ, List.set_cons_zero]
  refine take_call (i := 10) (f := 37) (args := #[.agg #[.int .u64 (tn (x0.lo)), .int .u64 (tn (x0.hi))], .agg #[.int .u64 (tn (x1.lo)), .int .u64 (tn (x1.hi))]]) (v := .agg #[.int .u64 (tn (maxU x0.lo x1.lo)), .int .u64 (tn (onesV (maxU x0.hi x1.hi)))]) (st_ups _ _) rfl rfl (by kernel_rfl) (fun _ _ _ h => h) (by rfl) (fun x hx => by kernel_rfl) (by intro x hx; exact span_Or_any x0 x1 _) ?_
  simp only [List.set_cons_succ, List.set_cons_zero]
  refine take_val (i := 11) (v := .agg #[.int .u64 (tn (x0.lo)), .int .u64 (tn (x0.hi))]) (st_ups _ _) rfl rfl (by kernel_rfl) (fun _ _ _ h => h) (by rfl) (by intro x hx; have f0 := hx.load 0 0 rfl rfl; have f1 := hx.load 0 1 rfl rfl; go_simp; (first | done | exact rfl)) ?_
  simp only [List.set_cons_succ, List.set_cons_zero]
  refine take_val (i := 12) (v := .agg #[.int .u64 (tn (x1.lo)), .int .u64 (tn (x1.hi))]) (st_ups _ _) rfl rfl (by kernel_rfl) (fun _ _ _ h => h) (by rfl) (by intro x hx; have f0 := hx.load 1 0 rfl rfl; have f1 := hx.load 1 1 rfl rfl; go_simp; (first | done | exact rfl)) ?_
  simp only [List.set_cons_succ, List.set_cons_zero]
  refine take_call (i := 13) (f := 38) (args := #[.agg #[.int .u64 (tn (x0.lo)), .int .u64 (tn (x0.hi))], .agg #[.int .u64 (tn (x1.lo)), .int .u64 (tn (x1.hi))]]) (v := .agg #[.int .u64 (tn (maxU x0.lo x1.lo)), .int .u64 (tn (onesV (maxU x0.hi x1.hi)))]) (st_ups _ _) rfl rfl (by kernel_rfl) (fun _ _ _ h => h) (by rfl) (fun x hx => by kernel_rfl) (by intro x hx; exact ref_Or_any x0 x1 _) ?_
  simp only [List.set_cons_succ, List.set_cons_zero]
  refine take_val (i := 14) (v := .bool true) (st_ups _ _) rfl rfl (by kernel_rfl) (fun _ _ _ h => h) (by rfl) (by intro x hx; go_simp; (first | done | exact rfl)) ?_
  simp only [List.set_cons_succ, List.set_cons_zero]
  refine take_val (i := 15) (v := .bool true) (st_ups _ _) rfl rfl (by kernel_rfl) (fun _ _ _ h => h) (by rfl) (by intro x hx; go_simp; (first | done | exact rfl)) ?_
  simp only [List.set_cons_succ, List.set_cons_zero]
  refine take_val (i := 16) (v := .bool true) (st_ups _ _) rfl rfl (by kernel_rfl) (fun _ _ _ h => h) (by rfl) (by intro x hx; go_simp; (first | done | exact rfl)) ?_
  simp only [List.set_cons_succ, List.set_cons_zero]
  refine take_val (i := 17) (v := .agg #[.int .u64 (tn (x0.lo)), .int .u64 (tn (x0.hi))]) (st_ups _ _) rfl rfl (by kernel_rfl) (fun _ _ _ h => h) (by rfl) (by intro x hx; have f0 := hx.load 0 0 rfl rfl; have f1 := hx.load 0 1 rfl rfl; go_simp; (first | done | exact rfl)) ?_
  simp only [List.set_cons_succ, List.set_cons_zero]
  refine take_val (i := 18) (v := .agg #[.int .u64 (tn (x1.lo)), .int .u64 (tn (x1.hi))]) (st_ups _ _) rfl rfl (by kernel_rfl) (fun _ _ _ h => h) (by rfl) (by intro x hx; have f0 := hx.load 1 0 rfl rfl; have f1 := hx.load 1 1 rfl rfl; go_simp; (first | done | exact rfl)) ?_
  simp only [List.set_cons_succ, List.set_cons_zero]
  refine take_call (i := 19) (f := 39) (args := #[.agg #[.int .u64 (tn (x0.lo)), .int .u64 (tn (x0.hi))], .agg #[.int .u64 (tn (x1.lo)), .int .u64 (tn (x1.hi))]]) (v := .agg #[.int .u64 (tn (0#64)), .int .u64 (tn (onesV (maxU x0.hi x1.hi)))]) (st_ups _ _) rfl rfl (by kernel_rfl) (fun _ _ _ h => h) (by rfl) (fun x hx => by kernel_rfl) (by intro x hx; exact span_Xor_any x0 x1 _) ?_
  simp only [List.set_cons_succ, List.set_cons_zero]
  refine take_val (i := 20) (v := .agg #[.int .u64 (tn (x0.lo)), .int .u64 (tn (x0.hi))]) (st_ups _ _) rfl rfl (by kernel_rfl) (fun _ _ _ h => h) (by rfl) (by intro x hx; have f0 := hx.load 0 0 rfl rfl; have f1 := hx.load 0 1 rfl rfl; go_simp; (first | done | exact rfl)) ?_
  simp only [List.set_cons_succ, List.set_cons_zero]
  refine take_val (i := 21) (v := .agg #[.int .u64 (tn (x1.lo)), .int .u64 (tn (x1.hi))]) (st_ups _ _) rfl rfl (by kernel_rfl) (fun _ _ _ h => h) (by rfl) (by intro x hx; have f0 := hx.load 1 0 rfl rfl; have f1 := hx.load 1 1 rfl rfl; go_simp; (first | done | exact rfl)) ?_
  simp only [List.set_cons_succ, List.set_cons_zero]
  refine take_call (i := 22) (f := 40) (args := #[.agg #[.int .u64 (tn (x0.lo)), .int .u64 (tn (x0.hi))], .agg #[.int .u64 (tn (x1.lo)), .int .u64 (tn (x1.hi))]]) (v := .agg #[.int .u64 (tn (0#64)), .int .u64 (tn (onesV (maxU x0.hi x1.hi)))]) (st_ups _ _) rfl rfl (by kernel_rfl) (fun _ _ _ h => h) (by rfl) (fun x hx => by kernel_rfl) (by intro x hx; exact ref_Xor_any x0 x1 _) ?_
  simp only [List.set_cons_succ, List.set_cons_zero]
  refine take_val (i := 23) (v := .bool true) (st_ups _ _) rfl rfl (by kernel_rfl) (fun _ _ _ h => h) (by rfl) (by intro x hx; go_simp; (first | done | exact rfl)) ?_
  simp only [List.set_cons_succ, List.set_cons_zero]
  refine take_val (i := 24) (v := .bool true) (st_ups _ _) rfl rfl (by kernel_rfl) (fun _ _ _ h => h) (by rfl) (by intro x hx; go_simp; (first | done | exact rfl)) ?_
  simp only [List.set_cons_succ, List.set_cons_zero]
  refine take_val (i := 25) (v := .bool true) (st_ups _ _) rfl rfl (by kernel_rfl) (fun _ _ _ h => h) (by rfl) (by intro x hx; go_simp; (first | done | exact rfl)) ?_
  simp only [List.set_cons_succ, List.set_cons_zero]
  refine take_val (i := 26) (v := .agg #[.int .u64 (tn (x0.lo)), .int .u64 (tn (x0.hi))]) (st_ups _ _) rfl rfl (by kernel_rfl) (fun _ _ _ h => h) (by rfl) (by intro x hx; have f0 := hx.load 0 0 rfl rfl; have f1 := hx.load 0 1 rfl rfl; go_simp; (first | done | exact rfl)) ?_
  simp only [List.set_cons_succ, List.set_cons_zero]
  refine take_val (i := 27) (v := .int .i64 (ti (x2))) (st_ups _ _) rfl rfl (by kernel_rfl) (fun _ _ _ h => h) (by rfl) (by intro x hx; go_simp; (first | done | exact rfl)) ?_
  simp only [List.set_cons_succ, List.set_cons_zero]
  refine take_call (i := 28) (f := 41) (args := #[.agg #[.int .u64 (tn (x0.lo)), .int .u64 (tn (x0.hi))], .int .i64 (ti (x2))]) (v := .agg #[.int .u64 (tn ((span_Mul x0 (P.mk (1#64 <<< (x2 % 64#64).toNat) (1#64 <<< (x2 % 64#64).toNat))).lo)), .int .u64 (tn ((span_Mul x0 (P.mk (1#64 <<< (x2 % 64#64).toNat) (1#64 <<< (x2 % 64#64).toNat))).hi))]) (st_ups _ _) rfl rfl (by kernel_rfl) (fun _ _ _ h => h) (by rfl) (fun x hx => by kernel_rfl) (by intro x hx; exact span_Lsh_any x0 x2 _) ?_
  simp only [List.set_cons_succ, List.set_cons_zero]
  refine take_val (i := 29) (v := .agg #[.int .u64 (tn (x0.lo)), .int .u64 (tn (x0.hi))]) (st_ups _ _) rfl rfl (by kernel_rfl) (fun _ _ _ h => h) (by rfl) (by intro x hx; have f0 := hx.load 0 0 rfl rfl; have f1 := hx.load 0 1 rfl rfl; go_simp; (first | done | exact rfl)) ?_
  simp only [List.set_cons_succ, List.set_cons_zero]
  refine take_val (i := 30) (v := .int .i64 (ti (x2))) (st_ups _ _) rfl rfl (by kernel_rfl) (fun _ _ _ h => h) (by rfl) (by intro x hx; go_simp; (first | done | exact rfl)) ?_
  simp only [List.set_cons_succ, List.set_cons_zero]
  refine take_call (i := 31) (f := 42) (args := #[.agg #[.int .u64 (tn (x0.lo)), .int .u64 (tn (x0.hi))], .int .i64 (ti (x2))]) (v := .agg #[.int .u64 (tn ((span_Mul x0 (P.mk (1#64 <<< (x2 % 64#64).toNat) (1#64 <<< (x2 % 64#64).toNat))).lo)), .int .u64 (tn ((span_Mul x0 (P.mk (1#64 <<< (x2 % 64#64).toNat) (1#64 <<< (x2 % 64#64).toNat))).hi))]) (st_ups _ _) rfl rfl (by kernel_rfl) (fun _ _ _ h => h) (by rfl) (fun x hx => by kernel_rfl) (by intro x hx; exact calls_is (ref_Lsh_any x0 x2 _) (congrArg (fun rr : P => (.agg #[.int .u64 (tn (rr.lo)), .int .u64 (tn (rr.hi))] : Value)) (lsh_is x0 x2))) ?_
  simp only [List.set_cons_succ, List.set_cons_zero]
  refine take_val (i := 32) (v := .bool true) (st_ups _ _) rfl rfl (by kernel_rfl) (fun _ _ _ h => h) (by rfl) (by intro x hx; go_simp; (first | done | exact rfl)) ?_
  simp only [List.set_cons_succ, List.set_cons_zero]
  refine take_val (i := 33) (v := .bool true) (st_ups _ _) rfl rfl (by kernel_rfl) (fun _ _ _ h => h) (by rfl) (by intro x hx; go_simp; (first | done | exact rfl)) ?_
  simp only [List.set_cons_succ, List.set_cons_zero]
  refine take_val (i := 34) (v := .bool true) (st_ups _ _) rfl rfl (by kernel_rfl) (fun _ _ _ h => h) (by rfl) (by intro x hx; go_simp; (first | done | exact rfl)) ?_
  simp only [List.set_cons_succ, List.set_cons_zero]
  refine take_val (i := 35) (v := .agg #[.int .u64 (tn (x0.lo)), .int .u64 (tn (x0.hi))]) (st_ups _ _) rfl rfl (by kernel_rfl) (fun _ _ _ h => h) (by rfl) (by intro x hx; have f0 := hx.load 0 0 rfl rfl; have f1 := hx.load 0 1 rfl rfl; go_simp; (first | done | exact rfl)) ?_
  simp only [List.set_cons_succ, List.set_cons_zero]
  refine take_val (i := 36) (v := .int .i64 (ti (x2))) (st_ups _ _) rfl rfl (by kernel_rfl) (fun _ _ _ h => h) (by rfl) (by intro x hx; go_simp; (first | done | exact rfl)) ?_
  simp only [List.set_cons_succ, List.set_cons_zero]
  refine take_call (i := 37) (f := 43) (args := #[.agg #[.int .u64 (tn (x0.lo)), .int .u64 (tn (x0.hi))], .int .i64 (ti (x2))]) (v := .agg #[.int .u64 (tn (x0.lo >>> (x2 % 64#64).toNat)), .int .u64 (tn (x0.hi >>> (x2 % 64#64).toNat))]) (st_ups _ _) rfl rfl (by kernel_rfl) (fun _ _ _ h => h) (by rfl) (fun x hx => by kernel_rfl) (by intro x hx; exact span_Rsh_any x0 x2 _) ?_
  simp only [List.set_cons_succ, List.set_cons_zero]
  refine take_val (i := 38) (v := .agg #[.int .u64 (tn (x0.lo)), .int .u64 (tn (x0.hi))]) (st_ups _ _) rfl rfl (by kernel_rfl) (fun _ _ _ h => h) (by rfl) (by intro x hx; have f0 := hx.load 0 0 rfl rfl; have f1 := hx.load 0 1 rfl rfl; go_simp; (first | done | exact rfl)) ?_
  simp only [List.set_cons_succ, List.set_cons_zero]
  refine take_val (i := 39) (v := .int .i64 (ti (x2))) (st_ups _ _) rfl rfl (by kernel_rfl) (fun _ _ _ h => h) (by rfl) (by intro x hx; go_simp; (first | done | exact rfl)) ?_
  simp only [List.set_cons_succ, List.set_cons_zero]
  refine take_call (i := 40) (f := 44) (args := #[.agg #[.int .u64 (tn (x0.lo)), .int .u64 (tn (x0.hi))], .int .i64 (ti (x2))]) (v := .agg #[.int .u64 (tn (x0.lo >>> (x2 % 64#64).toNat)), .int .u64 (tn (x0.hi >>> (x2 % 64#64).toNat))]) (st_ups _ _) rfl rfl (by kernel_rfl) (fun _ _ _ h => h) (by rfl) (fun x hx => by kernel_rfl) (by intro x hx; exact calls_is (ref_Rsh_any x0 x2 _) (congrArg (fun rr : P => (.agg #[.int .u64 (tn (rr.lo)), .int .u64 (tn (rr.hi))] : Value)) (rsh_is x0 x2))) ?_
  simp only [List.set_cons_succ, List.set_cons_zero]
  refine take_val (i := 41) (v := .bool true) (st_ups _ _) rfl rfl (by kernel_rfl) (fun _ _ _ h => h) (by rfl) (by intro x hx; go_simp; (first | done | exact rfl)) ?_
  simp only [List.set_cons_succ, List.set_cons_zero]
  refine take_val (i := 42) (v := .bool true) (st_ups _ _) rfl rfl (by kernel_rfl) (fun _ _ _ h => h) (by rfl) (by intro x hx; go_simp; (first | done | exact rfl)) ?_
  simp only [List.set_cons_succ, List.set_cons_zero]
  refine take_val (i := 43) (v := .bool true) (st_ups _ _) rfl rfl (by kernel_rfl) (fun _ _ _ h => h) (by rfl) (by intro x hx; go_simp; (first | done | exact rfl)) ?_
  simp only [List.set_cons_succ, List.set_cons_zero]
  refine take_val (i := 44) (v := .agg #[.int .u64 (tn (x0.lo)), .int .u64 (tn (x0.hi))]) (st_ups _ _) rfl rfl (by kernel_rfl) (fun _ _ _ h => h) (by rfl) (by intro x hx; have f0 := hx.load 0 0 rfl rfl; have f1 := hx.load 0 1 rfl rfl; go_simp; (first | done | exact rfl)) ?_
  simp only [List.set_cons_succ, List.set_cons_zero]
  refine take_call (i := 45) (f := 45) (args := #[.agg #[.int .u64 (tn (x0.lo)), .int .u64 (tn (x0.hi))]]) (v := .agg #[.int .u64 (tn ((span_Cut x0).lo)), .int .u64 (tn ((span_Cut x0).hi))]) (st_ups _ _) rfl rfl (by kernel_rfl) (fun _ _ _ h => h) (by rfl) (fun x hx => by kernel_rfl) (by intro x hx; exact span_Cut_any x0 _) ?_
  simp only [List.set_cons_succ, List.set_cons_zero]
  refine take_val (i := 46) (v := .agg #[.int .u64 (tn (x0.lo)), .int .u64 (tn (x0.hi))]) (st_ups _ _) rfl rfl (by kernel_rfl) (fun _ _ _ h => h) (by rfl) (by intro x hx; have f0 := hx.load 0 0 rfl rfl; have f1 := hx.load 0 1 rfl rfl; go_simp; (first | done | exact rfl)) ?_
  simp only [List.set_cons_succ, List.set_cons_zero]
  refine take_call (i := 47) (f := 46) (args := #[.agg #[.int .u64 (tn (x0.lo)), .int .u64 (tn (x0.hi))]]) (v := .agg #[.int .u64 (tn ((span_Cut x0).lo)), .int .u64 (tn ((span_Cut x0).hi))]) (st_ups _ _) rfl rfl (by kernel_rfl) (fun _ _ _ h => h) (by rfl) (fun x hx => by kernel_rfl) (by intro x hx; exact calls_is (ref_Cut_any x0 _) (congrArg (fun rr : P => (.agg #[.int .u64 (tn (rr.lo)), .int .u64 (tn (rr.hi))] : Value)) (cut_is x0))) ?_
  simp only [List.set_cons_succ, List.set_cons_zero]
  refine take_val (i := 48) (v := .bool true) (st_ups _ _) rfl rfl (by kernel_rfl) (fun _ _ _ h => h) (by rfl) (by intro x hx; go_simp; (first | done | exact rfl)) ?_
  simp only [List.set_cons_succ, List.set_cons_zero]
  refine take_val (i := 49) (v := .bool true) (st_ups _ _) rfl rfl (by kernel_rfl) (fun _ _ _ h => h) (by rfl) (by intro x hx; go_simp; (first | done | exact rfl)) ?_
  simp only [List.set_cons_succ, List.set_cons_zero]
  refine take_val (i := 50) (v := .bool true) (st_ups _ _) rfl rfl (by kernel_rfl) (fun _ _ _ h => h) (by rfl) (by intro x hx; go_simp; (first | done | exact rfl)) ?_
  simp only [List.set_cons_succ, List.set_cons_zero]
  refine take_call (i := 51) (f := 12) (args := #[]) (v := .bool true) (st_ups _ _) rfl rfl (by kernel_rfl) (fun _ _ _ h => h) (by rfl) (fun x hx => by kernel_rfl) (by intro x hx; exact law_known_any _) ?_
  simp only [List.set_cons_succ, List.set_cons_zero]
  refine take_val (i := 52) (v := .bool true) (st_ups _ _) rfl rfl (by kernel_rfl) (fun _ _ _ h => h) (by rfl) (by intro x hx; go_simp; (first | done | exact rfl)) ?_
  simp only [List.set_cons_succ, List.set_cons_zero]
  refine take_val (i := 53) (v := .bool true) (st_ups _ _) rfl rfl (by kernel_rfl) (fun _ _ _ h => h) (by rfl) (by intro x hx; go_simp; (first | done | exact rfl)) ?_
  simp only [List.set_cons_succ, List.set_cons_zero]
  refine take_done (by kernel_rfl) ?_ _
  intro W7 hx
  replace HS := hid hx
  clear hx
  go_wp2
  exact bodyPost_ret (v := .bool true) (by simp [results, Try.results3, go_sem]) rfl ⟨rfl, HS.out.below⟩
set_option maxRecDepth 100000 in
set_option maxHeartbeats 1000000 in
theorem tells_no1 (x0 : P) (x1 : P) (x2 : BitVec 64) (ha : leU x0.lo x0.hi = false) (w : World) :
    Calls Try.prog 3 #[.agg #[.int .u64 (tn (x0.lo)), .int .u64 (tn (x0.hi))], .agg #[.int .u64 (tn (x1.lo)), .int .u64 (tn (x1.hi))], .int .i64 (ti (x2))] w fun e w' => e = .returned (.bool true) ∧ Below w.heap.size w w' := by
  have Hha := hid ha
  clear ha
  go_enter Try.func3, Try.ntmps3
  have HS := hid (((st_nil w).alloc (k := w.heap.size) rfl [.int .u64 (tn (x0.lo)), .int .u64 (tn (x0.hi))] 24).alloc (k := w.heap.size + 1) (by simp) [.int .u64 (tn (x1.lo)), .int .u64 (tn (x1.hi))] 24)
  -- region 1
  go_upto_region 1 with fail
  refine lin_begin (St w [⟨w.heap.size, [some (.int .u64 (tn (x0.lo))), some (.int .u64 (tn (x0.hi)))], 24⟩, ⟨w.heap.size + 1, [some (.int .u64 (tn (x1.lo))), some (.int .u64 (tn (x1.hi)))], 24⟩]) rfl HS.out ?_
  refine lin_val (i := 0) (v := .agg #[.int .u64 (tn (x0.lo)), .int .u64 (tn (x0.hi))]) rfl rfl (by rfl) (by intro x hx; have f0 := hx.load 0 0 rfl rfl; have f1 := hx.load 0 1 rfl rfl; go_simp; (first | done | exact rfl)) ?_
  simp only [List.set_cons_succ, List.set_cons_zero]
  refine lin_call (i := 1) (f := 11) (args := #[.agg #[.int .u64 (tn (x0.lo)), .int .u64 (tn (x0.hi))]]) (v := .bool false) (st_ups _ _) rfl rfl (by rfl) (fun x hx => by kernel_rfl) (by intro x hx; exact calls_is (ref_May_any x0 _) (congrArg Value.bool (Hha.out))) ?_
  simp only [List.set_cons_succ, List.set_cons_zero]
  refine lin_val (i := 2) (v := .bool true) rfl rfl (by rfl) (by intro x hx; go_simp; (first | done | exact rfl)) ?_
  simp only [List.set_cons_succ, List.set_cons_zero]
  refine lin_val (i := 3) (v := .bool true) rfl rfl (by rfl) (by intro x hx; go_simp; (first | done | exact rfl)) ?_
  simp only [List.set_cons_succ, List.set_cons_zero]
  refine lin_no (i := 4) rfl rfl (by kernel_rfl) ?_
  simp only [List.set_cons_succ, List.set_cons_zero]
  refine lin_no (i := 5) rfl rfl (by kernel_rfl) ?_
  simp only [List.set_cons_succ, List.set_cons_zero]
  refine lin_no (i := 6) rfl rfl (by kernel_rfl) ?_
  simp only [List.set_cons_succ, List.set_cons_zero]
  refine lin_val (i := 7) (v := .bool true) rfl rfl (by rfl) (by intro x hx; go_simp; (first | done | exact rfl)) ?_
  simp only [List.set_cons_succ, List.set_cons_zero]
  refine lin_done ?_
  intro W1 hx
  replace HS := hid hx
  clear hx
  -- region 2
  go_upto_region 2 with fail
  refine lin_begin (St w [⟨w.heap.size, [some (.int .u64 (tn (x0.lo))), some (.int .u64 (tn (x0.hi)))], 24⟩, ⟨w.heap.size + 1, [some (.int .u64 (tn (x1.lo))), some (.int .u64 (tn (x1.hi)))], 24⟩]) rfl HS.out ?_
  refine lin_call (i := 0) (f := 12) (args := #[]) (v := .bool true) (st_ups _ _) rfl rfl (by rfl) (fun x hx => by kernel_rfl) (by intro x hx; exact law_known_any _) ?_
  simp only [List.set_cons_succ, List.set_cons_zero]
  refine lin_val (i := 1) (v := .bool true) rfl rfl (by rfl) (by intro x hx; go_simp; (first | done | exact rfl)) ?_
  simp only [List.set_cons_succ, List.set_cons_zero]
  refine lin_done ?_
  intro W2 hx
  replace HS := hid hx
  clear hx
  go_wp2
  exact bodyPost_ret (v := .bool true) (by simp [results, Try.results3, go_sem]) rfl ⟨rfl, HS.out.below⟩
set_option maxRecDepth 100000 in
set_option maxHeartbeats 1000000 in
theorem tells_no2 (x0 : P) (x1 : P) (x2 : BitVec 64) (ha : leU x0.lo x0.hi = true) (hb : leU x1.lo x1.hi = false) (w : World) :
    Calls Try.prog 3 #[.agg #[.int .u64 (tn (x0.lo)), .int .u64 (tn (x0.hi))], .agg #[.int .u64 (tn (x1.lo)), .int .u64 (tn (x1.hi))], .int .i64 (ti (x2))] w fun e w' => e = .returned (.bool true) ∧ Below w.heap.size w w' := by
  have Hha := hid ha
  clear ha
  have Hhb := hid hb
  clear hb
  go_enter Try.func3, Try.ntmps3
  have HS := hid (((st_nil w).alloc (k := w.heap.size) rfl [.int .u64 (tn (x0.lo)), .int .u64 (tn (x0.hi))] 24).alloc (k := w.heap.size + 1) (by simp) [.int .u64 (tn (x1.lo)), .int .u64 (tn (x1.hi))] 24)
  -- region 1
  go_upto_region 1 with fail
  refine lin_begin (St w [⟨w.heap.size, [some (.int .u64 (tn (x0.lo))), some (.int .u64 (tn (x0.hi)))], 24⟩, ⟨w.heap.size + 1, [some (.int .u64 (tn (x1.lo))), some (.int .u64 (tn (x1.hi)))], 24⟩]) rfl HS.out ?_
  refine lin_val (i := 0) (v := .agg #[.int .u64 (tn (x0.lo)), .int .u64 (tn (x0.hi))]) rfl rfl (by rfl) (by intro x hx; have f0 := hx.load 0 0 rfl rfl; have f1 := hx.load 0 1 rfl rfl; go_simp; (first | done | exact rfl)) ?_
  simp only [List.set_cons_succ, List.set_cons_zero]
  refine lin_call (i := 1) (f := 11) (args := #[.agg #[.int .u64 (tn (x0.lo)), .int .u64 (tn (x0.hi))]]) (v := .bool true) (st_ups _ _) rfl rfl (by rfl) (fun x hx => by kernel_rfl) (by intro x hx; exact calls_is (ref_May_any x0 _) (congrArg Value.bool (Hha.out))) ?_
  simp only [List.set_cons_succ, List.set_cons_zero]
  refine lin_val (i := 2) (v := .bool false) rfl rfl (by rfl) (by intro x hx; go_simp; (first | done | exact rfl)) ?_
  simp only [List.set_cons_succ, List.set_cons_zero]
  refine lin_val (i := 3) (v := .bool false) rfl rfl (by rfl) (by intro x hx; go_simp; (first | done | exact rfl)) ?_
  simp only [List.set_cons_succ, List.set_cons_zero]
  refine lin_val (i := 4) (v := .agg #[.int .u64 (tn (x1.lo)), .int .u64 (tn (x1.hi))]) rfl rfl (by rfl) (by intro x hx; have f0 := hx.load 1 0 rfl rfl; have f1 := hx.load 1 1 rfl rfl; go_simp; (first | done | exact rfl)) ?_
  simp only [List.set_cons_succ, List.set_cons_zero]
  refine lin_call (i := 5) (f := 11) (args := #[.agg #[.int .u64 (tn (x1.lo)), .int .u64 (tn (x1.hi))]]) (v := .bool false) (st_ups _ _) rfl rfl (by rfl) (fun x hx => by kernel_rfl) (by intro x hx; exact calls_is (ref_May_any x1 _) (congrArg Value.bool (Hhb.out))) ?_
  simp only [List.set_cons_succ, List.set_cons_zero]
  refine lin_val (i := 6) (v := .bool true) rfl rfl (by rfl) (by intro x hx; go_simp; (first | done | exact rfl)) ?_
  simp only [List.set_cons_succ, List.set_cons_zero]
  refine lin_val (i := 7) (v := .bool true) rfl rfl (by rfl) (by intro x hx; go_simp; (first | done | exact rfl)) ?_
  simp only [List.set_cons_succ, List.set_cons_zero]
  refine lin_done ?_
  intro W1 hx
  replace HS := hid hx
  clear hx
  -- region 2
  go_upto_region 2 with fail
  refine lin_begin (St w [⟨w.heap.size, [some (.int .u64 (tn (x0.lo))), some (.int .u64 (tn (x0.hi)))], 24⟩, ⟨w.heap.size + 1, [some (.int .u64 (tn (x1.lo))), some (.int .u64 (tn (x1.hi)))], 24⟩]) rfl HS.out ?_
  refine lin_call (i := 0) (f := 12) (args := #[]) (v := .bool true) (st_ups _ _) rfl rfl (by rfl) (fun x hx => by kernel_rfl) (by intro x hx; exact law_known_any _) ?_
  simp only [List.set_cons_succ, List.set_cons_zero]
  refine lin_val (i := 1) (v := .bool true) rfl rfl (by rfl) (by intro x hx; go_simp; (first | done | exact rfl)) ?_
  simp only [List.set_cons_succ, List.set_cons_zero]
  refine lin_done ?_
  intro W2 hx
  replace HS := hid hx
  clear hx
  go_wp2
  exact bodyPost_ret (v := .bool true) (by simp [results, Try.results3, go_sem]) rfl ⟨rfl, HS.out.below⟩
end Go.Proofs.Ytoojdndfjfmemaa.Sp
