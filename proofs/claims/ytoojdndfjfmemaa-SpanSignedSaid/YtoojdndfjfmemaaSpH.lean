/-
  The walk of the law SpanSigned.
-/
import Derived.Deep.DeepCutAuto
import Derived.Test.YtoojdndfjfmemaaSpF
namespace Go.Proofs.Ytoojdndfjfmemaa.Sp
open Go.RowKit Go.Proofs.Ytoojdndfjfmemaa.Num Go.Proofs.Ytoojdndfjfmemaa.Up
theorem sarsh_is (a : P) (n : BitVec 64) : ref_Sarsh a n = span_down_int64 a n := rfl
set_option maxRecDepth 100000 in
set_option maxHeartbeats 4000000 in
theorem signed_yes (x0 : P) (x1 : P) (x2 : BitVec 64) (ha : leI x0.lo x0.hi = true) (hb : leI x1.lo x1.hi = true) (w : World) :
    Calls Try.prog 4 #[.agg #[.int .i64 (ti (x0.lo)), .int .i64 (ti (x0.hi))], .agg #[.int .i64 (ti (x1.lo)), .int .i64 (ti (x1.hi))], .int .i64 (ti (x2))] w fun e w' => e = .returned (.bool true) ∧ Below w.heap.size w w' := by
  have Hha := hid ha
  clear ha
  have Hhb := hid hb
  clear hb
  go_enter Try.func4, Try.ntmps4
  have HS := hid (((st_nil w).alloc (k := w.heap.size) rfl [.int .i64 (ti (x0.lo)), .int .i64 (ti (x0.hi))] 38).alloc (k := w.heap.size + 1) (by simp) [.int .i64 (ti (x1.lo)), .int .i64 (ti (x1.hi))] 38)
  -- region 1
  go_upto_region 1 with fail
  refine lin_begin (St w [⟨w.heap.size, [some (.int .i64 (ti (x0.lo))), some (.int .i64 (ti (x0.hi)))], 38⟩, ⟨w.heap.size + 1, [some (.int .i64 (ti (x1.lo))), some (.int .i64 (ti (x1.hi)))], 38⟩]) rfl HS.out ?_
  refine lin_val (i := 0) (v := .agg #[.int .i64 (ti (x0.lo)), .int .i64 (ti (x0.hi))]) rfl rfl (by rfl) (by intro x hx; have f0 := hx.load 0 0 rfl rfl; have f1 := hx.load 0 1 rfl rfl; go_simp; (first | done | exact rfl)) ?_
  simp only [List.set_cons_succ, List.set_cons_zero]
  refine lin_call (i := 1) (f := 47) (args := #[.agg #[.int .i64 (ti (x0.lo)), .int .i64 (ti (x0.hi))]]) (v := .bool true) (st_ups _ _) rfl rfl (by rfl) (fun x hx => by kernel_rfl) (by intro x hx; exact calls_is (ref_Smay_any x0 _) (congrArg Value.bool (Hha.out))) ?_
  simp only [List.set_cons_succ, List.set_cons_zero]
  refine lin_val (i := 2) (v := .bool false) rfl rfl (by rfl) (by intro x hx; go_simp; (first | done | exact rfl)) ?_
  simp only [List.set_cons_succ, List.set_cons_zero]
  refine lin_val (i := 3) (v := .bool false) rfl rfl (by rfl) (by intro x hx; go_simp; (first | done | exact rfl)) ?_
  simp only [List.set_cons_succ, List.set_cons_zero]
  refine lin_val (i := 4) (v := .agg #[.int .i64 (ti (x1.lo)), .int .i64 (ti (x1.hi))]) rfl rfl (by rfl) (by intro x hx; have f0 := hx.load 1 0 rfl rfl; have f1 := hx.load 1 1 rfl rfl; go_simp; (first | done | exact rfl)) ?_
  simp only [List.set_cons_succ, List.set_cons_zero]
  refine lin_call (i := 5) (f := 47) (args := #[.agg #[.int .i64 (ti (x1.lo)), .int .i64 (ti (x1.hi))]]) (v := .bool true) (st_ups _ _) rfl rfl (by rfl) (fun x hx => by kernel_rfl) (by intro x hx; exact calls_is (ref_Smay_any x1 _) (congrArg Value.bool (Hhb.out))) ?_
  simp only [List.set_cons_succ, List.set_cons_zero]
  refine lin_val (i := 6) (v := .bool false) rfl rfl (by rfl) (by intro x hx; go_simp; (first | done | exact rfl)) ?_
  simp only [List.set_cons_succ, List.set_cons_zero]
  refine lin_val (i := 7) (v := .bool false) rfl rfl (by rfl) (by intro x hx; go_simp; (first | done | exact rfl)) ?_
  simp only [List.set_cons_succ, List.set_cons_zero]
  refine lin_done ?_
  intro W1 hx
  replace HS := hid hx
  clear hx
  -- region 3
  go_upto_region 3 with fail
  refine lin_begin (St w [⟨w.heap.size, [some (.int .i64 (ti (x0.lo))), some (.int .i64 (ti (x0.hi)))], 38⟩, ⟨w.heap.size + 1, [some (.int .i64 (ti (x1.lo))), some (.int .i64 (ti (x1.hi)))], 38⟩]) rfl HS.out ?_
  refine lin_val (i := 0) (v := .agg #[.int .i64 (ti (x0.lo)), .int .i64 (ti (x0.hi))]) rfl rfl (by rfl) (by intro x hx; have f0 := hx.load 0 0 rfl rfl; have f1 := hx.load 0 1 rfl rfl; go_simp; (first | done | exact rfl)) ?_
  simp only [List.set_cons_succ, List.set_cons_zero]
  refine lin_val (i := 1) (v := .agg #[.int .i64 (ti (x1.lo)), .int .i64 (ti (x1.hi))]) rfl rfl (by rfl) (by intro x hx; have f0 := hx.load 1 0 rfl rfl; have f1 := hx.load 1 1 rfl rfl; go_simp; (first | done | exact rfl)) ?_
  simp only [List.set_cons_succ, List.set_cons_zero]
  refine lin_call (i := 2) (f := 48) (args := #[.agg #[.int .i64 (ti (x0.lo)), .int .i64 (ti (x0.hi))], .agg #[.int .i64 (ti (x1.lo)), .int .i64 (ti (x1.hi))]]) (v := .tuple #[.agg #[.int .i64 (ti (((span_meet_int64 x0 x1).1).lo)), .int .i64 (ti (((span_meet_int64 x0 x1).1).hi))], .bool ((span_meet_int64 x0 x1).2)]) (st_ups _ _) rfl rfl (by rfl) (fun x hx => by kernel_rfl) (by intro x hx; exact span_Smeet_any x0 x1 _) ?_
  simp only [List.set_cons_succ, List.set_cons_zero]
  refine lin_val (i := 3) (v := .tuple #[.agg #[.int .i64 (ti (((span_meet_int64 x0 x1).1).lo)), .int .i64 (ti (((span_meet_int64 x0 x1).1).hi))], .bool ((span_meet_int64 x0 x1).2)]) rfl rfl (by rfl) (by intro x hx; go_simp; (first | done | exact rfl)) ?_
  simp only [List.set_cons_succ, List.set_cons_zero]
  refine lin_val (i := 4) (v := .agg #[.int .i64 (ti (((span_meet_int64 x0 x1).1).lo)), .int .i64 (ti (((span_meet_int64 x0 x1).1).hi))]) rfl rfl (by rfl) (by intro x hx; go_simp; (first | done | exact rfl)) ?_
  simp only [List.set_cons_succ, List.set_cons_zero]
  refine lin_val (i := 5) (v := .bool ((span_meet_int64 x0 x1).2)) rfl rfl (by rfl) (by intro x hx; go_simp; (first | done | exact rfl)) ?_
  simp only [List.set_cons_succ, List.set_cons_zero]
  refine lin_new (i := 6) rfl rfl (by rfl) [.int .i64 0, .int .i64 0] 38 (fun k => .pointer (some ⟨k, 0, none⟩)) [some (.int .i64 0), some (.int .i64 0)] (lessC_eq (lessC_eq (trivial))) (by intro x hx; go_simp; (first | done | exact rfl)) (fun k1 => ?_)
  simp only [List.set_cons_succ, List.set_cons_zero]
  refine lin_store (i := 7) (St w [⟨w.heap.size, [some (.int .i64 (ti (x0.lo))), some (.int .i64 (ti (x0.hi)))], 38⟩, ⟨w.heap.size + 1, [some (.int .i64 (ti (x1.lo))), some (.int .i64 (ti (x1.hi)))], 38⟩, ⟨k1, [some (.int .i64 (ti (((span_meet_int64 x0 x1).1).lo))), some (.int .i64 (ti (((span_meet_int64 x0 x1).1).hi)))], 38⟩]) rfl rfl (by rfl) (fun x => ((x.setCell ⟨k1, 0, none⟩ (.int .i64 (ti (((span_meet_int64 x0 x1).1).lo)))).setCell ⟨k1, 1, none⟩ (.int .i64 (ti (((span_meet_int64 x0 x1).1).hi))))) (by intro x hx; obtain ⟨u0, z0⟩ := hx.has 2 0 rfl (by simp); have q0 := hx.soft 2 0 rfl; obtain ⟨u1, z1⟩ := hx.has 2 1 rfl (by simp); have q1 := hx.soft 2 1 rfl; go_simp; (first | done | rfl)) (fun x hx => ((hx.put 2 0 (.int .i64 (ti (((span_meet_int64 x0 x1).1).lo))) rfl).put 2 1 (.int .i64 (ti (((span_meet_int64 x0 x1).1).hi))) rfl)) ?_
  refine lin_val (i := 8) (v := .bool ((span_meet_int64 x0 x1).2)) rfl rfl (by rfl) (by intro x hx; go_simp; (first | done | exact rfl)) ?_
  simp only [List.set_cons_succ, List.set_cons_zero]
  refine lin_done ?_
  intro W2 hx
  replace HS := hid hx
  clear hx
  -- region 4
  go_upto_region 4 with fail
  refine lin_begin (St w [⟨w.heap.size, [some (.int .i64 (ti (x0.lo))), some (.int .i64 (ti (x0.hi)))], 38⟩, ⟨w.heap.size + 1, [some (.int .i64 (ti (x1.lo))), some (.int .i64 (ti (x1.hi)))], 38⟩, ⟨k1, [some (.int .i64 (ti (((span_meet_int64 x0 x1).1).lo))), some (.int .i64 (ti (((span_meet_int64 x0 x1).1).hi)))], 38⟩]) rfl HS.out ?_
  refine lin_val (i := 0) (v := .agg #[.int .i64 (ti (x0.lo)), .int .i64 (ti (x0.hi))]) rfl rfl (by rfl) (by intro x hx; have f0 := hx.load 0 0 rfl rfl; have f1 := hx.load 0 1 rfl rfl; go_simp; (first | done | exact rfl)) ?_
  simp only [List.set_cons_succ, List.set_cons_zero]
  refine lin_val (i := 1) (v := .agg #[.int .i64 (ti (x1.lo)), .int .i64 (ti (x1.hi))]) rfl rfl (by rfl) (by intro x hx; have f0 := hx.load 1 0 rfl rfl; have f1 := hx.load 1 1 rfl rfl; go_simp; (first | done | exact rfl)) ?_
  simp only [List.set_cons_succ, List.set_cons_zero]
  refine lin_call (i := 2) (f := 49) (args := #[.agg #[.int .i64 (ti (x0.lo)), .int .i64 (ti (x0.hi))], .agg #[.int .i64 (ti (x1.lo)), .int .i64 (ti (x1.hi))]]) (v := .tuple #[.agg #[.int .i64 (ti (((span_meet_int64 x0 x1).1).lo)), .int .i64 (ti (((span_meet_int64 x0 x1).1).hi))], .bool ((span_meet_int64 x0 x1).2)]) (st_ups _ _) rfl rfl (by rfl) (fun x hx => by kernel_rfl) (by intro x hx; exact calls_is (ref_Smeet_any x0 x1 _) (congrArg (fun rr : P × Bool => (.tuple #[.agg #[.int .i64 (ti (rr.1.lo)), .int .i64 (ti (rr.1.hi))], .bool (rr.2)] : Value)) (smeet_is x0 x1))) ?_
  simp only [List.set_cons_succ, List.set_cons_zero]
  refine lin_val (i := 3) (v := .tuple #[.agg #[.int .i64 (ti (((span_meet_int64 x0 x1).1).lo)), .int .i64 (ti (((span_meet_int64 x0 x1).1).hi))], .bool ((span_meet_int64 x0 x1).2)]) rfl rfl (by rfl) (by intro x hx; go_simp; (first | done | exact rfl)) ?_
  simp only [List.set_cons_succ, List.set_cons_zero]
  refine lin_val (i := 4) (v := .agg #[.int .i64 (ti (((span_meet_int64 x0 x1).1).lo)), .int .i64 (ti (((span_meet_int64 x0 x1).1).hi))]) rfl rfl (by rfl) (by intro x hx; go_simp; (first | done | exact rfl)) ?_
  simp only [List.set_cons_succ, List.set_cons_zero]
  refine lin_val (i := 5) (v := .bool ((span_meet_int64 x0 x1).2)) rfl rfl (by rfl) (by intro x hx; go_simp; (first | done | exact rfl)) ?_
  simp only [List.set_cons_succ, List.set_cons_zero]
  refine lin_new (i := 6) rfl rfl (by rfl) [.int .i64 0, .int .i64 0] 38 (fun k => .pointer (some ⟨k, 0, none⟩)) [some (.int .i64 0), some (.int .i64 0)] (lessC_eq (lessC_eq (trivial))) (by intro x hx; go_simp; (first | done | exact rfl)) (fun k2 => ?_)
  simp only [List.set_cons_succ, List.set_cons_zero]
  refine lin_store (i := 7) (St w [⟨w.heap.size, [some (.int .i64 (ti (x0.lo))), some (.int .i64 (ti (x0.hi)))], 38⟩, ⟨w.heap.size + 1, [some (.int .i64 (ti (x1.lo))), some (.int .i64 (ti (x1.hi)))], 38⟩, ⟨k1, [some (.int .i64 (ti (((span_meet_int64 x0 x1).1).lo))), some (.int .i64 (ti (((span_meet_int64 x0 x1).1).hi)))], 38⟩, ⟨k2, [some (.int .i64 (ti (((span_meet_int64 x0 x1).1).lo))), some (.int .i64 (ti (((span_meet_int64 x0 x1).1).hi)))], 38⟩]) rfl rfl (by rfl) (fun x => ((x.setCell ⟨k2, 0, none⟩ (.int .i64 (ti (((span_meet_int64 x0 x1).1).lo)))).setCell ⟨k2, 1, none⟩ (.int .i64 (ti (((span_meet_int64 x0 x1).1).hi))))) (by intro x hx; obtain ⟨u0, z0⟩ := hx.has 3 0 rfl (by simp); have q0 := hx.soft 3 0 rfl; obtain ⟨u1, z1⟩ := hx.has 3 1 rfl (by simp); have q1 := hx.soft 3 1 rfl; go_simp; (first | done | rfl)) (fun x hx => ((hx.put 3 0 (.int .i64 (ti (((span_meet_int64 x0 x1).1).lo))) rfl).put 3 1 (.int .i64 (ti (((span_meet_int64 x0 x1).1).hi))) rfl)) ?_
  refine lin_val (i := 8) (v := .bool ((span_meet_int64 x0 x1).2)) rfl rfl (by rfl) (by intro x hx; go_simp; (first | done | exact rfl)) ?_
  simp only [List.set_cons_succ, List.set_cons_zero]
  refine lin_done ?_
  intro W3 hx
  replace HS := hid hx
  clear hx
  -- region 5
  go_upto_region 5 with fail
  refine lin_begin (St w [⟨w.heap.size, [some (.int .i64 (ti (x0.lo))), some (.int .i64 (ti (x0.hi)))], 38⟩, ⟨w.heap.size + 1, [some (.int .i64 (ti (x1.lo))), some (.int .i64 (ti (x1.hi)))], 38⟩, ⟨k1, [some (.int .i64 (ti (((span_meet_int64 x0 x1).1).lo))), some (.int .i64 (ti (((span_meet_int64 x0 x1).1).hi)))], 38⟩, ⟨k2, [some (.int .i64 (ti (((span_meet_int64 x0 x1).1).lo))), some (.int .i64 (ti (((span_meet_int64 x0 x1).1).hi)))], 38⟩]) rfl HS.out ?_
  refine lin_val (i := 0) (v := .pointer (some ⟨w.heap.size + 1, 0, none⟩)) rfl rfl (by rfl) (by intro x hx; go_simp; (first | done | exact rfl)) ?_
  simp only [List.set_cons_succ, List.set_cons_zero]
  refine lin_val (i := 1) (v := .int .i64 (ti (x1.lo))) rfl rfl (by rfl) (by intro x hx; have f0 := hx.load 1 0 rfl rfl; go_simp; (first | done | exact rfl)) ?_
  simp only [List.set_cons_succ, List.set_cons_zero]
  refine lin_val (i := 2) (v := .int .i64 (ti (x1.lo))) rfl rfl (by rfl) (by intro x hx; go_simp; (first | done | exact rfl)) ?_
  simp only [List.set_cons_succ, List.set_cons_zero]
  refine lin_done ?_
  intro W4 hx
  replace HS := hid hx
  clear hx
  -- region 6
  go_upto_region 6 with fail
  refine up_begin (St w [⟨w.heap.size, [some (.int .i64 (ti (x0.lo))), some (.int .i64 (ti (x0.hi)))], 38⟩, ⟨w.heap.size + 1, [some (.int .i64 (ti (x1.lo))), some (.int .i64 (ti (x1.hi)))], 38⟩, ⟨k1, [some (.int .i64 (ti (((span_meet_int64 x0 x1).1).lo))), some (.int .i64 (ti (((span_meet_int64 x0 x1).1).hi)))], 38⟩, ⟨k2, [some (.int .i64 (ti (((span_meet_int64 x0 x1).1).lo))), some (.int .i64 (ti (((span_meet_int64 x0 x1).1).hi)))], 38⟩]) 47 rfl (by kernel_rfl) (HS.out.drew) ?_
  refine take_val (i := 0) (v := .int .i64 (ti (x1.lo))) (st_ups _ _) rfl rfl (by kernel_rfl) (fun _ _ _ h => h) (by rfl) (by intro x hx; go_simp; (first | done | exact rfl)) ?_
  simp only [List.set_cons_succ, List.set_cons_zero]
  refine take_call (i := 1) (f := 50) (args := #[.int .i64 (ti (x1.lo))]) (v := .agg #[.int .i64 (ti (x1.lo)), .int .i64 (ti (x1.lo))]) (st_ups _ _) rfl rfl (by kernel_rfl) (fun _ _ _ h => h) (by rfl) (fun x hx => by kernel_rfl) (by intro x hx; exact span_Sof_any x1.lo _) ?_
  simp only [List.set_cons_succ, List.set_cons_zero]
  refine take_val (i := 2) (v := .int .i64 (ti (x1.lo))) (st_ups _ _) rfl rfl (by kernel_rfl) (fun _ _ _ h => h) (by rfl) (by intro x hx; go_simp; (first | done | exact rfl)) ?_
  simp only [List.set_cons_succ, List.set_cons_zero]
  refine take_call (i := 3) (f := 51) (args := #[.int .i64 (ti (x1.lo))]) (v := .agg #[.int .i64 (ti (x1.lo)), .int .i64 (ti (x1.lo))]) (st_ups _ _) rfl rfl (by kernel_rfl) (fun _ _ _ h => h) (by rfl) (fun x hx => by kernel_rfl) (by intro x hx; exact ref_Sof_any x1.lo _) ?_
  simp only [List.set_cons_succ, List.set_cons_zero]
  refine take_val (i := 4) (v := .bool false) (st_ups _ _) rfl rfl (by kernel_rfl) (fun _ _ _ h => h) (by rfl) (by intro x hx; go_simp; (first | done | exact rfl)) ?_
  simp only [List.set_cons_succ, List.set_cons_zero]
  refine take_val (i := 5) (v := .bool false) (st_ups _ _) rfl rfl (by kernel_rfl) (fun _ _ _ h => h) (by rfl) (by intro x hx; go_simp; (first | done | exact rfl)) ?_
  simp only [List.set_cons_succ, List.set_cons_zero]
  refine take_call (i := 6) (f := 52) (args := #[]) (v := .agg #[.int .i64 (ti (9223372036854775808#64)), .int .i64 (ti (9223372036854775807#64))]) (st_ups _ _) rfl rfl (by kernel_rfl) (fun _ _ _ h => h) (by rfl) (fun x hx => by kernel_rfl) (by intro x hx; exact span_Sall_any _) ?_
  simp only [List.set_cons_succ, List.set_cons_zero]
  refine take_call (i := 7) (f := 53) (args := #[]) (v := .agg #[.int .i64 (ti (9223372036854775808#64)), .int .i64 (ti (9223372036854775807#64))]) (st_ups _ _) rfl rfl (by kernel_rfl) (fun _ _ _ h => h) (by rfl) (fun x hx => by kernel_rfl) (by intro x hx; exact ref_Sall_any _) ?_
  simp only [List.set_cons_succ, List.set_cons_zero]
  refine take_val (i := 8) (v := .bool false) (st_ups _ _) rfl rfl (by kernel_rfl) (fun _ _ _ h => h) (by rfl) (by intro x hx; go_simp; (first | done | exact rfl)) ?_
  simp only [List.set_cons_succ, List.set_cons_zero]
  refine take_val (i := 9) (v := .bool false) (st_ups _ _) rfl rfl (by kernel_rfl) (fun _ _ _ h => h) (by rfl) (by intro x hx; go_simp; (first | done | exact rfl)) ?_
  simp only [List.set_cons_succ, List.set_cons_zero]
  refine take_val (i := 10) (v := .bool false) (st_ups _ _) rfl rfl (by kernel_rfl) (fun _ _ _ h => h) (by rfl) (by intro x hx; go_simp; (first | done | exact rfl)) ?_
  simp only [List.set_cons_succ, List.set_cons_zero]
  refine take_val (i := 11) (v := .agg #[.int .i64 (ti (x0.lo)), .int .i64 (ti (x0.hi))]) (st_ups _ _) rfl rfl (by kernel_rfl) (fun _ _ _ h => h) (by rfl) (by intro x hx; have f0 := hx.load 0 0 rfl rfl; have f1 := hx.load 0 1 rfl rfl; go_simp; (first | done | exact rfl)) ?_
  simp only [List.set_cons_succ, List.set_cons_zero]
  refine take_val (i := 12) (v := .int .i64 (ti (x1.lo))) (st_ups _ _) rfl rfl (by kernel_rfl) (fun _ _ _ h => h) (by rfl) (by intro x hx; go_simp; (first | done | exact rfl)) ?_
  simp only [List.set_cons_succ, List.set_cons_zero]
  refine take_call (i := 13) (f := 54) (args := #[.agg #[.int .i64 (ti (x0.lo)), .int .i64 (ti (x0.hi))], .int .i64 (ti (x1.lo))]) (v := .bool (span_within_int64 (P.mk x1.lo x1.lo) x0)) (st_ups _ _) rfl rfl (by kernel_rfl) (fun _ _ _ h => h) (by rfl) (fun x hx => by kernel_rfl) (by intro x hx; exact span_Sin_any x0 x1.lo _) ?_
  simp only [List.set_cons_succ, List.set_cons_zero]
  refine take_val (i := 14) (v := .agg #[.int .i64 (ti (x0.lo)), .int .i64 (ti (x0.hi))]) (st_ups _ _) rfl rfl (by kernel_rfl) (fun _ _ _ h => h) (by rfl) (by intro x hx; have f0 := hx.load 0 0 rfl rfl; have f1 := hx.load 0 1 rfl rfl; go_simp; (first | done | exact rfl)) ?_
  simp only [List.set_cons_succ, List.set_cons_zero]
  refine take_val (i := 15) (v := .int .i64 (ti (x1.lo))) (st_ups _ _) rfl rfl (by kernel_rfl) (fun _ _ _ h => h) (by rfl) (by intro x hx; go_simp; (first | done | exact rfl)) ?_
  simp only [List.set_cons_succ, List.set_cons_zero]
  refine take_call (i := 16) (f := 55) (args := #[.agg #[.int .i64 (ti (x0.lo)), .int .i64 (ti (x0.hi))], .int .i64 (ti (x1.lo))]) (v := .bool (span_within_int64 (P.mk x1.lo x1.lo) x0)) (st_ups _ _) rfl rfl (by kernel_rfl) (fun _ _ _ h => h) (by rfl) (fun x hx => by kernel_rfl) (by intro x hx; exact calls_is (ref_Sin_any x0 x1.lo _) (congrArg (fun rr : Bool => (.bool (rr) : Value)) (swithin_in x0 x1.lo))) ?_
  simp only [List.set_cons_succ, List.set_cons_zero]
  refine take_val (i := 17) (v := .bool false) (st_ups _ _) rfl rfl (by kernel_rfl) (fun _ _ _ h => h) (by rfl) (by intro x hx; go_simp; (first | done | rfl | simp)) ?_
  simp only [List.set_cons_succ, List.set_cons_zero]
  refine take_val (i := 18) (v := .bool false) (st_ups _ _) rfl rfl (by kernel_rfl) (fun _ _ _ h => h) (by rfl) (by intro x hx; go_simp; (first | done | exact rfl)) ?_
  simp only [List.set_cons_succ, List.set_cons_zero]
  refine take_val (i := 19) (v := .bool false) (st_ups _ _) rfl rfl (by kernel_rfl) (fun _ _ _ h => h) (by rfl) (by intro x hx; go_simp; (first | done | exact rfl)) ?_
  simp only [List.set_cons_succ, List.set_cons_zero]
  refine take_val (i := 20) (v := .agg #[.int .i64 (ti (x0.lo)), .int .i64 (ti (x0.hi))]) (st_ups _ _) rfl rfl (by kernel_rfl) (fun _ _ _ h => h) (by rfl) (by intro x hx; have f0 := hx.load 0 0 rfl rfl; have f1 := hx.load 0 1 rfl rfl; go_simp; (first | done | exact rfl)) ?_
  simp only [List.set_cons_succ, List.set_cons_zero]
  refine take_val (i := 21) (v := .agg #[.int .i64 (ti (x1.lo)), .int .i64 (ti (x1.hi))]) (st_ups _ _) rfl rfl (by kernel_rfl) (fun _ _ _ h => h) (by rfl) (by intro x hx; have f0 := hx.load 1 0 rfl rfl; have f1 := hx.load 1 1 rfl rfl; go_simp; (first | done | exact rfl)) ?_
  simp only [List.set_cons_succ, List.set_cons_zero]
  refine take_call (i := 22) (f := 56) (args := #[.agg #[.int .i64 (ti (x0.lo)), .int .i64 (ti (x0.hi))], .agg #[.int .i64 (ti (x1.lo)), .int .i64 (ti (x1.hi))]]) (v := .bool (span_within_int64 x0 x1)) (st_ups _ _) rfl rfl (by kernel_rfl) (fun _ _ _ h => h) (by rfl) (fun x hx => by kernel_rfl) (by intro x hx; exact span_Swithin_any x0 x1 _) ?_
  simp only [List.set_cons_succ, List.set_cons_zero]
  refine take_val (i := 23) (v := .agg #[.int .i64 (ti (x0.lo)), .int .i64 (ti (x0.hi))]) (st_ups _ _) rfl rfl (by kernel_rfl) (fun _ _ _ h => h) (by rfl) (by intro x hx; have f0 := hx.load 0 0 rfl rfl; have f1 := hx.load 0 1 rfl rfl; go_simp; (first | done | exact rfl)) ?_
  simp only [List.set_cons_succ, List.set_cons_zero]
  refine take_val (i := 24) (v := .agg #[.int .i64 (ti (x1.lo)), .int .i64 (ti (x1.hi))]) (st_ups _ _) rfl rfl (by kernel_rfl) (fun _ _ _ h => h) (by rfl) (by intro x hx; have f0 := hx.load 1 0 rfl rfl; have f1 := hx.load 1 1 rfl rfl; go_simp; (first | done | exact rfl)) ?_
  simp only [List.set_cons_succ, List.set_cons_zero]
  refine take_call (i := 25) (f := 57) (args := #[.agg #[.int .i64 (ti (x0.lo)), .int .i64 (ti (x0.hi))], .agg #[.int .i64 (ti (x1.lo)), .int .i64 (ti (x1.hi))]]) (v := .bool (span_within_int64 x0 x1)) (st_ups _ _) rfl rfl (by kernel_rfl) (fun _ _ _ h => h) (by rfl) (fun x hx => by kernel_rfl) (by intro x hx; exact calls_is (ref_Swithin_any x0 x1 _) (congrArg (fun rr : Bool => (.bool (rr) : Value)) (swithin_is x0 x1))) ?_
  simp only [List.set_cons_succ, List.set_cons_zero]
  refine take_val (i := 26) (v := .bool false) (st_ups _ _) rfl rfl (by kernel_rfl) (fun _ _ _ h => h) (by rfl) (by intro x hx; go_simp; (first | done | rfl | simp)) ?_
  simp only [List.set_cons_succ, List.set_cons_zero]
  refine take_val (i := 27) (v := .bool false) (st_ups _ _) rfl rfl (by kernel_rfl) (fun _ _ _ h => h) (by rfl) (by intro x hx; go_simp; (first | done | exact rfl)) ?_
  simp only [List.set_cons_succ, List.set_cons_zero]
  refine take_val (i := 28) (v := .bool false) (st_ups _ _) rfl rfl (by kernel_rfl) (fun _ _ _ h => h) (by rfl) (by intro x hx; go_simp; (first | done | exact rfl)) ?_
  simp only [List.set_cons_succ, List.set_cons_zero]
  refine take_val (i := 29) (v := .agg #[.int .i64 (ti (x0.lo)), .int .i64 (ti (x0.hi))]) (st_ups _ _) rfl rfl (by kernel_rfl) (fun _ _ _ h => h) (by rfl) (by intro x hx; have f0 := hx.load 0 0 rfl rfl; have f1 := hx.load 0 1 rfl rfl; go_simp; (first | done | exact rfl)) ?_
  simp only [List.set_cons_succ, List.set_cons_zero]
  refine take_val (i := 30) (v := .agg #[.int .i64 (ti (x1.lo)), .int .i64 (ti (x1.hi))]) (st_ups _ _) rfl rfl (by kernel_rfl) (fun _ _ _ h => h) (by rfl) (by intro x hx; have f0 := hx.load 1 0 rfl rfl; have f1 := hx.load 1 1 rfl rfl; go_simp; (first | done | exact rfl)) ?_
  simp only [List.set_cons_succ, List.set_cons_zero]
  refine take_call (i := 31) (f := 58) (args := #[.agg #[.int .i64 (ti (x0.lo)), .int .i64 (ti (x0.hi))], .agg #[.int .i64 (ti (x1.lo)), .int .i64 (ti (x1.hi))]]) (v := .agg #[.int .i64 (ti (minI x0.lo x1.lo)), .int .i64 (ti (maxI x0.hi x1.hi))]) (st_ups _ _) rfl rfl (by kernel_rfl) (fun _ _ _ h => h) (by rfl) (fun x hx => by kernel_rfl) (by intro x hx; exact span_Sjoin_any x0 x1 _) ?_
  simp only [List.set_cons_succ, List.set_cons_zero]
  refine take_val (i := 32) (v := .agg #[.int .i64 (ti (x0.lo)), .int .i64 (ti (x0.hi))]) (st_ups _ _) rfl rfl (by kernel_rfl) (fun _ _ _ h => h) (by rfl) (by intro x hx; have f0 := hx.load 0 0 rfl rfl; have f1 := hx.load 0 1 rfl rfl; go_simp; (first | done | exact rfl)) ?_
  simp only [List.set_cons_succ, List.set_cons_zero]
  refine take_val (i := 33) (v := .agg #[.int .i64 (ti (x1.lo)), .int .i64 (ti (x1.hi))]) (st_ups _ _) rfl rfl (by kernel_rfl) (fun _ _ _ h => h) (by rfl) (by intro x hx; have f0 := hx.load 1 0 rfl rfl; have f1 := hx.load 1 1 rfl rfl; go_simp; (first | done | exact rfl)) ?_
  simp only [List.set_cons_succ, List.set_cons_zero]
  refine take_call (i := 34) (f := 59) (args := #[.agg #[.int .i64 (ti (x0.lo)), .int .i64 (ti (x0.hi))], .agg #[.int .i64 (ti (x1.lo)), .int .i64 (ti (x1.hi))]]) (v := .agg #[.int .i64 (ti (minI x0.lo x1.lo)), .int .i64 (ti (maxI x0.hi x1.hi))]) (st_ups _ _) rfl rfl (by kernel_rfl) (fun _ _ _ h => h) (by rfl) (fun x hx => by kernel_rfl) (by intro x hx; exact calls_is (ref_Sjoin_any x0 x1 _) (congrArg (fun rr : P => (.agg #[.int .i64 (ti (rr.lo)), .int .i64 (ti (rr.hi))] : Value)) (sjoin_is x0 x1))) ?_
  simp only [List.set_cons_succ, List.set_cons_zero]
  refine take_val (i := 35) (v := .bool false) (st_ups _ _) rfl rfl (by kernel_rfl) (fun _ _ _ h => h) (by rfl) (by intro x hx; go_simp; (first | done | exact rfl)) ?_
  simp only [List.set_cons_succ, List.set_cons_zero]
  refine take_val (i := 36) (v := .bool false) (st_ups _ _) rfl rfl (by kernel_rfl) (fun _ _ _ h => h) (by rfl) (by intro x hx; go_simp; (first | done | exact rfl)) ?_
  simp only [List.set_cons_succ, List.set_cons_zero]
  refine take_val (i := 37) (v := .bool false) (st_ups _ _) rfl rfl (by kernel_rfl) (fun _ _ _ h => h) (by rfl) (by intro x hx; go_simp; (first | done | exact rfl)) ?_
  simp only [List.set_cons_succ, List.set_cons_zero]
  refine take_val (i := 38) (v := .agg #[.int .i64 (ti (((span_meet_int64 x0 x1).1).lo)), .int .i64 (ti (((span_meet_int64 x0 x1).1).hi))]) (st_ups _ _) rfl rfl (by kernel_rfl) (fun _ _ _ h => h) (by rfl) (by intro x hx; have f0 := hx.load 2 0 rfl rfl; have f1 := hx.load 2 1 rfl rfl; go_simp; (first | done | exact rfl)) ?_
  simp only [List.set_cons_succ, List.set_cons_zero]
  refine take_val (i := 39) (v := .agg #[.int .i64 (ti (((span_meet_int64 x0 x1).1).lo)), .int .i64 (ti (((span_meet_int64 x0 x1).1).hi))]) (st_ups _ _) rfl rfl (by kernel_rfl) (fun _ _ _ h => h) (by rfl) (by intro x hx; have f0 := hx.load 3 0 rfl rfl; have f1 := hx.load 3 1 rfl rfl; go_simp; (first | done | exact rfl)) ?_
  simp only [List.set_cons_succ, List.set_cons_zero]
  refine take_val (i := 40) (v := .bool false) (st_ups _ _) rfl rfl (by kernel_rfl) (fun _ _ _ h => h) (by rfl) (by intro x hx; go_simp; (first | done | exact rfl)) ?_
  simp only [List.set_cons_succ, List.set_cons_zero]
  refine take_val (i := 41) (v := .bool false) (st_ups _ _) rfl rfl (by kernel_rfl) (fun _ _ _ h => h) (by rfl) (by intro x hx; go_simp; (first | done | exact rfl)) ?_
  simp only [List.set_cons_succ, List.set_cons_zero]
  refine take_val (i := 42) (v := .bool false) (st_ups _ _) rfl rfl (by kernel_rfl) (fun _ _ _ h => h) (by rfl) (by intro x hx; go_simp; (first | done | exact rfl)) ?_
  simp only [List.set_cons_succ, List.set_cons_zero]
  refine take_val (i := 43) (v := .bool ((span_meet_int64 x0 x1).2)) (st_ups _ _) rfl rfl (by kernel_rfl) (fun _ _ _ h => h) (by rfl) (by intro x hx; go_simp; (first | done | exact rfl)) ?_
  simp only [List.set_cons_succ, List.set_cons_zero]
  refine take_val (i := 44) (v := .bool ((span_meet_int64 x0 x1).2)) (st_ups _ _) rfl rfl (by kernel_rfl) (fun _ _ _ h => h) (by rfl) (by intro x hx; go_simp; (first | done | exact rfl)) ?_
  simp only [List.set_cons_succ, List.set_cons_zero]
  refine take_val (i := 45) (v := .bool false) (st_ups _ _) rfl rfl (by kernel_rfl) (fun _ _ _ h => h) (by rfl) (by intro x hx; go_simp; (first | done | rfl | simp)) ?_
  simp only [List.set_cons_succ, List.set_cons_zero]
  refine take_val (i := 46) (v := .bool false) (st_ups _ _) rfl rfl (by kernel_rfl) (fun _ _ _ h => h) (by rfl) (by intro x hx; go_simp; (first | done | exact rfl)) ?_
  simp only [List.set_cons_succ, List.set_cons_zero]
  refine take_done (by kernel_rfl) ?_ _
  intro W5 hx
  replace HS := hid hx
  clear hx
  -- region 8
  go_upto_region 8 with fail
  refine up_begin (St w [⟨w.heap.size, [some (.int .i64 (ti (x0.lo))), some (.int .i64 (ti (x0.hi)))], 38⟩, ⟨w.heap.size + 1, [some (.int .i64 (ti (x1.lo))), some (.int .i64 (ti (x1.hi)))], 38⟩, ⟨k1, [some (.int .i64 (ti (((span_meet_int64 x0 x1).1).lo))), some (.int .i64 (ti (((span_meet_int64 x0 x1).1).hi)))], 38⟩, ⟨k2, [some (.int .i64 (ti (((span_meet_int64 x0 x1).1).lo))), some (.int .i64 (ti (((span_meet_int64 x0 x1).1).hi)))], 38⟩]) 36 rfl (by kernel_rfl) (HS.out.drew) ?_
  refine take_val (i := 0) (v := .agg #[.int .i64 (ti (x0.lo)), .int .i64 (ti (x0.hi))]) (st_ups _ _) rfl rfl (by kernel_rfl) (fun _ _ _ h => h) (by rfl) (by intro x hx; have f0 := hx.load 0 0 rfl rfl; have f1 := hx.load 0 1 rfl rfl; go_simp; (first | done | exact rfl)) ?_
  simp only [List.set_cons_succ, List.set_cons_zero]
  refine take_val (i := 1) (v := .agg #[.int .i64 (ti (x1.lo)), .int .i64 (ti (x1.hi))]) (st_ups _ _) rfl rfl (by kernel_rfl) (fun _ _ _ h => h) (by rfl) (by intro x hx; have f0 := hx.load 1 0 rfl rfl; have f1 := hx.load 1 1 rfl rfl; go_simp; (first | done | exact rfl)) ?_
  simp only [List.set_cons_succ, List.set_cons_zero]
  refine take_call (i := 2) (f := 60) (args := #[.agg #[.int .i64 (ti (x0.lo)), .int .i64 (ti (x0.hi))], .agg #[.int .i64 (ti (x1.lo)), .int .i64 (ti (x1.hi))]]) (v := .agg #[.int .i64 (ti ((span_Sadd x0 x1).lo)), .int .i64 (ti ((span_Sadd x0 x1).hi))]) (st_ups _ _) rfl rfl (by kernel_rfl) (fun _ _ _ h => h) (by rfl) (fun x hx => by kernel_rfl) (by intro x hx; exact span_Sadd_any x0 x1 _) ?_
  simp only [List.set_cons_succ, List.set_cons_zero]
  refine take_val (i := 3) (v := .agg #[.int .i64 (ti (x0.lo)), .int .i64 (ti (x0.hi))]) (st_ups _ _) rfl rfl (by kernel_rfl) (fun _ _ _ h => h) (by rfl) (by intro x hx; have f0 := hx.load 0 0 rfl rfl; have f1 := hx.load 0 1 rfl rfl; go_simp; (first | done | exact rfl)) ?_
  simp only [List.set_cons_succ, List.set_cons_zero]
  refine take_val (i := 4) (v := .agg #[.int .i64 (ti (x1.lo)), .int .i64 (ti (x1.hi))]) (st_ups _ _) rfl rfl (by kernel_rfl) (fun _ _ _ h => h) (by rfl) (by intro x hx; have f0 := hx.load 1 0 rfl rfl; have f1 := hx.load 1 1 rfl rfl; go_simp; (first | done | exact rfl)) ?_
  simp only [List.set_cons_succ, List.set_cons_zero]
  refine take_call (i := 5) (f := 61) (args := #[.agg #[.int .i64 (ti (x0.lo)), .int .i64 (ti (x0.hi))], .agg #[.int .i64 (ti (x1.lo)), .int .i64 (ti (x1.hi))]]) (v := .agg #[.int .i64 (ti ((span_Sadd x0 x1).lo)), .int .i64 (ti ((span_Sadd x0 x1).hi))]) (st_ups _ _) rfl rfl (by kernel_rfl) (fun _ _ _ h => h) (by rfl) (fun x hx => by kernel_rfl) (by intro x hx; exact calls_is (ref_Sadd_any x0 x1 _) (congrArg (fun rr : P => (.agg #[.int .i64 (ti (rr.lo)), .int .i64 (ti (rr.hi))] : Value)) (sadd_is x0 x1))) ?_
  simp only [List.set_cons_succ, List.set_cons_zero]
  refine take_val (i := 6) (v := .bool true) (st_ups _ _) rfl rfl (by kernel_rfl) (fun _ _ _ h => h) (by rfl) (by intro x hx; go_simp; (first | done | exact rfl)) ?_
  simp only [List.set_cons_succ, List.set_cons_zero]
  refine take_val (i := 7) (v := .bool true) (st_ups _ _) rfl rfl (by kernel_rfl) (fun _ _ _ h => h) (by rfl) (by intro x hx; go_simp; (first | done | exact rfl)) ?_
  simp only [List.set_cons_succ, List.set_cons_zero]
  refine take_val (i := 8) (v := .agg #[.int .i64 (ti (x0.lo)), .int .i64 (ti (x0.hi))]) (st_ups _ _) rfl rfl (by kernel_rfl) (fun _ _ _ h => h) (by rfl) (by intro x hx; have f0 := hx.load 0 0 rfl rfl; have f1 := hx.load 0 1 rfl rfl; go_simp; (first | done | exact rfl)) ?_
  simp only [List.set_cons_succ, List.set_cons_zero]
  refine take_val (i := 9) (v := .agg #[.int .i64 (ti (x1.lo)), .int .i64 (ti (x1.hi))]) (st_ups _ _) rfl rfl (by kernel_rfl) (fun _ _ _ h => h) (by rfl) (by intro x hx; have f0 := hx.load 1 0 rfl rfl; have f1 := hx.load 1 1 rfl rfl; go_simp; (first | done | exact rfl)) ?_
  simp only [List.set_cons_succ, List.set_cons_zero]
  refine take_call (i := 10) (f := 62) (args := #[.agg #[.int .i64 (ti (x0.lo)), .int .i64 (ti (x0.hi))], .agg #[.int .i64 (ti (x1.lo)), .int .i64 (ti (x1.hi))]]) (v := .agg #[.int .i64 (ti ((span_Ssub x0 x1).lo)), .int .i64 (ti ((span_Ssub x0 x1).hi))]) (st_ups _ _) rfl rfl (by kernel_rfl) (fun _ _ _ h => h) (by rfl) (fun x hx => by kernel_rfl) (by intro x hx; exact span_Ssub_any x0 x1 _) ?_
  simp only [List.set_cons_succ, List.set_cons_zero]
  refine take_val (i := 11) (v := .agg #[.int .i64 (ti (x0.lo)), .int .i64 (ti (x0.hi))]) (st_ups _ _) rfl rfl (by kernel_rfl) (fun _ _ _ h => h) (by rfl) (by intro x hx; have f0 := hx.load 0 0 rfl rfl; have f1 := hx.load 0 1 rfl rfl; go_simp; (first | done | exact rfl)) ?_
  simp only [List.set_cons_succ, List.set_cons_zero]
  refine take_val (i := 12) (v := .agg #[.int .i64 (ti (x1.lo)), .int .i64 (ti (x1.hi))]) (st_ups _ _) rfl rfl (by kernel_rfl) (fun _ _ _ h => h) (by rfl) (by intro x hx; have f0 := hx.load 1 0 rfl rfl; have f1 := hx.load 1 1 rfl rfl; go_simp; (first | done | exact rfl)) ?_
  simp only [List.set_cons_succ, List.set_cons_zero]
  refine take_call (i := 13) (f := 63) (args := #[.agg #[.int .i64 (ti (x0.lo)), .int .i64 (ti (x0.hi))], .agg #[.int .i64 (ti (x1.lo)), .int .i64 (ti (x1.hi))]]) (v := .agg #[.int .i64 (ti ((span_Ssub x0 x1).lo)), .int .i64 (ti ((span_Ssub x0 x1).hi))]) (st_ups _ _) rfl rfl (by kernel_rfl) (fun _ _ _ h => h) (by rfl) (fun x hx => by kernel_rfl) (by intro x hx; exact calls_is (ref_Ssub_any x0 x1 _) (congrArg (fun rr : P => (.agg #[.int .i64 (ti (rr.lo)), .int .i64 (ti (rr.hi))] : Value)) (ssub_is x0 x1))) ?_
  simp only [List.set_cons_succ, List.set_cons_zero]
  refine take_val (i := 14) (v := .bool true) (st_ups _ _) rfl rfl (by kernel_rfl) (fun _ _ _ h => h) (by rfl) (by intro x hx; go_simp; (first | done | exact rfl)) ?_
  simp only [List.set_cons_succ, List.set_cons_zero]
  refine take_val (i := 15) (v := .bool true) (st_ups _ _) rfl rfl (by kernel_rfl) (fun _ _ _ h => h) (by rfl) (by intro x hx; go_simp; (first | done | exact rfl)) ?_
  simp only [List.set_cons_succ, List.set_cons_zero]
  refine take_val (i := 16) (v := .bool true) (st_ups _ _) rfl rfl (by kernel_rfl) (fun _ _ _ h => h) (by rfl) (by intro x hx; go_simp; (first | done | exact rfl)) ?_
  simp only [List.set_cons_succ, List.set_cons_zero]
  refine take_val (i := 17) (v := .agg #[.int .i64 (ti (x0.lo)), .int .i64 (ti (x0.hi))]) (st_ups _ _) rfl rfl (by kernel_rfl) (fun _ _ _ h => h) (by rfl) (by intro x hx; have f0 := hx.load 0 0 rfl rfl; have f1 := hx.load 0 1 rfl rfl; go_simp; (first | done | exact rfl)) ?_
  simp only [List.set_cons_succ, List.set_cons_zero]
  refine take_val (i := 18) (v := .int .i64 (ti (x2))) (st_ups _ _) rfl rfl (by kernel_rfl) (fun _ _ _ h => h) (by rfl) (by intro x hx; go_simp; (first | done | exact rfl)) ?_
  simp only [List.set_cons_succ, List.set_cons_zero]
  refine take_call (i := 19) (f := 64) (args := #[.agg #[.int .i64 (ti (x0.lo)), .int .i64 (ti (x0.hi))], .int .i64 (ti (x2))]) (v := .agg #[.int .i64 (ti ((span_down_int64 x0 x2).lo)), .int .i64 (ti ((span_down_int64 x0 x2).hi))]) (st_ups _ _) rfl rfl (by kernel_rfl) (fun _ _ _ h => h) (by rfl) (fun x hx => by kernel_rfl) (by intro x hx; exact span_Sarsh_any x0 x2 _) ?_
  simp only [List.set_cons_succ, List.set_cons_zero]
  refine take_val (i := 20) (v := .agg #[.int .i64 (ti (x0.lo)), .int .i64 (ti (x0.hi))]) (st_ups _ _) rfl rfl (by kernel_rfl) (fun _ _ _ h => h) (by rfl) (by intro x hx; have f0 := hx.load 0 0 rfl rfl; have f1 := hx.load 0 1 rfl rfl; go_simp; (first | done | exact rfl)) ?_
  simp only [List.set_cons_succ, List.set_cons_zero]
  refine take_val (i := 21) (v := .int .i64 (ti (x2))) (st_ups _ _) rfl rfl (by kernel_rfl) (fun _ _ _ h => h) (by rfl) (by intro x hx; go_simp; (first | done | exact rfl)) ?_
  simp only [List.set_cons_succ, List.set_cons_zero]
  refine take_call (i := 22) (f := 65) (args := #[.agg #[.int .i64 (ti (x0.lo)), .int .i64 (ti (x0.hi))], .int .i64 (ti (x2))]) (v := .agg #[.int .i64 (ti ((span_down_int64 x0 x2).lo)), .int .i64 (ti ((span_down_int64 x0 x2).hi))]) (st_ups _ _) rfl rfl (by kernel_rfl) (fun _ _ _ h => h) (by rfl) (fun x hx => by kernel_rfl) (by intro x hx; exact calls_is (ref_Sarsh_any x0 x2 _) (congrArg (fun rr : P => (.agg #[.int .i64 (ti (rr.lo)), .int .i64 (ti (rr.hi))] : Value)) (sarsh_is x0 x2))) ?_
  simp only [List.set_cons_succ, List.set_cons_zero]
  refine take_val (i := 23) (v := .bool true) (st_ups _ _) rfl rfl (by kernel_rfl) (fun _ _ _ h => h) (by rfl) (by intro x hx; go_simp; (first | done | exact rfl)) ?_
  simp only [List.set_cons_succ, List.set_cons_zero]
  refine take_val (i := 24) (v := .bool true) (st_ups _ _) rfl rfl (by kernel_rfl) (fun _ _ _ h => h) (by rfl) (by intro x hx; go_simp; (first | done | exact rfl)) ?_
  simp only [List.set_cons_succ, List.set_cons_zero]
  refine take_val (i := 25) (v := .bool true) (st_ups _ _) rfl rfl (by kernel_rfl) (fun _ _ _ h => h) (by rfl) (by intro x hx; go_simp; (first | done | exact rfl)) ?_
  simp only [List.set_cons_succ, List.set_cons_zero]
  refine take_val (i := 26) (v := .agg #[.int .i64 (ti (x0.lo)), .int .i64 (ti (x0.hi))]) (st_ups _ _) rfl rfl (by kernel_rfl) (fun _ _ _ h => h) (by rfl) (by intro x hx; have f0 := hx.load 0 0 rfl rfl; have f1 := hx.load 0 1 rfl rfl; go_simp; (first | done | exact rfl)) ?_
  simp only [List.set_cons_succ, List.set_cons_zero]
  refine take_call (i := 27) (f := 66) (args := #[.agg #[.int .i64 (ti (x0.lo)), .int .i64 (ti (x0.hi))]]) (v := .agg #[.int .i64 (ti ((span_Scut x0).lo)), .int .i64 (ti ((span_Scut x0).hi))]) (st_ups _ _) rfl rfl (by kernel_rfl) (fun _ _ _ h => h) (by rfl) (fun x hx => by kernel_rfl) (by intro x hx; exact span_Scut_any x0 _) ?_
  simp only [List.set_cons_succ, List.set_cons_zero]
  refine take_val (i := 28) (v := .agg #[.int .i64 (ti (x0.lo)), .int .i64 (ti (x0.hi))]) (st_ups _ _) rfl rfl (by kernel_rfl) (fun _ _ _ h => h) (by rfl) (by intro x hx; have f0 := hx.load 0 0 rfl rfl; have f1 := hx.load 0 1 rfl rfl; go_simp; (first | done | exact rfl)) ?_
  simp only [List.set_cons_succ, List.set_cons_zero]
  refine take_call (i := 29) (f := 67) (args := #[.agg #[.int .i64 (ti (x0.lo)), .int .i64 (ti (x0.hi))]]) (v := .agg #[.int .i64 (ti ((span_Scut x0).lo)), .int .i64 (ti ((span_Scut x0).hi))]) (st_ups _ _) rfl rfl (by kernel_rfl) (fun _ _ _ h => h) (by rfl) (fun x hx => by kernel_rfl) (by intro x hx; exact calls_is (ref_Scut_any x0 _) (congrArg (fun rr : P => (.agg #[.int .i64 (ti (rr.lo)), .int .i64 (ti (rr.hi))] : Value)) (scut_is x0))) ?_
  simp only [List.set_cons_succ, List.set_cons_zero]
  refine take_val (i := 30) (v := .bool true) (st_ups _ _) rfl rfl (by kernel_rfl) (fun _ _ _ h => h) (by rfl) (by intro x hx; go_simp; (first | done | exact rfl)) ?_
  simp only [List.set_cons_succ, List.set_cons_zero]
  refine take_val (i := 31) (v := .bool true) (st_ups _ _) rfl rfl (by kernel_rfl) (fun _ _ _ h => h) (by rfl) (by intro x hx; go_simp; (first | done | exact rfl)) ?_
  simp only [List.set_cons_succ, List.set_cons_zero]
  refine take_val (i := 32) (v := .bool true) (st_ups _ _) rfl rfl (by kernel_rfl) (fun _ _ _ h => h) (by rfl) (by intro x hx; go_simp; (first | done | exact rfl)) ?_
  simp only [List.set_cons_succ, List.set_cons_zero]
  refine take_call (i := 33) (f := 12) (args := #[]) (v := .bool true) (st_ups _ _) rfl rfl (by kernel_rfl) (fun _ _ _ h => h) (by rfl) (fun x hx => by kernel_rfl) (by intro x hx; exact law_known_any _) ?_
  simp only [List.set_cons_succ, List.set_cons_zero]
  refine take_val (i := 34) (v := .bool true) (st_ups _ _) rfl rfl (by kernel_rfl) (fun _ _ _ h => h) (by rfl) (by intro x hx; go_simp; (first | done | exact rfl)) ?_
  simp only [List.set_cons_succ, List.set_cons_zero]
  refine take_val (i := 35) (v := .bool true) (st_ups _ _) rfl rfl (by kernel_rfl) (fun _ _ _ h => h) (by rfl) (by intro x hx; go_simp; (first | done | exact rfl)) ?_
  simp only [List.set_cons_succ, List.set_cons_zero]
  refine take_done (by kernel_rfl) ?_ _
  intro W6 hx
  replace HS := hid hx
  clear hx
  go_wp2
  exact bodyPost_ret (v := .bool true) (by simp [results, Try.results4, go_sem]) rfl ⟨rfl, HS.out.below⟩
set_option maxRecDepth 100000 in
set_option maxHeartbeats 1000000 in
theorem signed_no1 (x0 : P) (x1 : P) (x2 : BitVec 64) (ha : leI x0.lo x0.hi = false) (w : World) :
    Calls Try.prog 4 #[.agg #[.int .i64 (ti (x0.lo)), .int .i64 (ti (x0.hi))], .agg #[.int .i64 (ti (x1.lo)), .int .i64 (ti (x1.hi))], .int .i64 (ti (x2))] w fun e w' => e = .returned (.bool true) ∧ Below w.heap.size w w' := by
  have Hha := hid ha
  clear ha
  go_enter Try.func4, Try.ntmps4
  have HS := hid (((st_nil w).alloc (k := w.heap.size) rfl [.int .i64 (ti (x0.lo)), .int .i64 (ti (x0.hi))] 38).alloc (k := w.heap.size + 1) (by simp) [.int .i64 (ti (x1.lo)), .int .i64 (ti (x1.hi))] 38)
  -- region 1
  go_upto_region 1 with fail
  refine lin_begin (St w [⟨w.heap.size, [some (.int .i64 (ti (x0.lo))), some (.int .i64 (ti (x0.hi)))], 38⟩, ⟨w.heap.size + 1, [some (.int .i64 (ti (x1.lo))), some (.int .i64 (ti (x1.hi)))], 38⟩]) rfl HS.out ?_
  refine lin_val (i := 0) (v := .agg #[.int .i64 (ti (x0.lo)), .int .i64 (ti (x0.hi))]) rfl rfl (by rfl) (by intro x hx; have f0 := hx.load 0 0 rfl rfl; have f1 := hx.load 0 1 rfl rfl; go_simp; (first | done | exact rfl)) ?_
  simp only [List.set_cons_succ, List.set_cons_zero]
  refine lin_call (i := 1) (f := 47) (args := #[.agg #[.int .i64 (ti (x0.lo)), .int .i64 (ti (x0.hi))]]) (v := .bool false) (st_ups _ _) rfl rfl (by rfl) (fun x hx => by kernel_rfl) (by intro x hx; exact calls_is (ref_Smay_any x0 _) (congrArg Value.bool (Hha.out))) ?_
  simp only [List.set_cons_succ, List.set_cons_zero]
  refine lin_val (i := 2) (v := .bool true) rfl rfl (by rfl) (by intro x hx; go_simp; (first | done | exact rfl)) ?_
  simp only [List.set_cons_succ, List.set_cons_zero]
  refine lin_val (i := 3) (v := .bool true) rfl rfl (by rfl) (by intro x hx; go_simp; (first | done | exact rfl)) ?_
  simp only [List.set_cons_succ, List.set_cons_zero]
  refine lin_no (i := 4) rfl rfl (by kernel_rfl) ?_
  simp only [List.set_cons_succ, List.set_cons_zero]
  refine lin_no (i := 5) rfl rfl (by kernel_rfl) ?_
  simp only [List.set_cons_succ, List.set_cons_zero]
  refine lin_no (i := 6) rfl rfl (by kernel_rfl) ?_
  simp only [List.set_cons_succ, List.set_cons_zero]
  refine lin_val (i := 7) (v := .bool true) rfl rfl (by rfl) (by intro x hx; go_simp; (first | done | exact rfl)) ?_
  simp only [List.set_cons_succ, List.set_cons_zero]
  refine lin_done ?_
  intro W1 hx
  replace HS := hid hx
  clear hx
  -- region 2
  go_upto_region 2 with fail
  refine lin_begin (St w [⟨w.heap.size, [some (.int .i64 (ti (x0.lo))), some (.int .i64 (ti (x0.hi)))], 38⟩, ⟨w.heap.size + 1, [some (.int .i64 (ti (x1.lo))), some (.int .i64 (ti (x1.hi)))], 38⟩]) rfl HS.out ?_
  refine lin_call (i := 0) (f := 12) (args := #[]) (v := .bool true) (st_ups _ _) rfl rfl (by rfl) (fun x hx => by kernel_rfl) (by intro x hx; exact law_known_any _) ?_
  simp only [List.set_cons_succ, List.set_cons_zero]
  refine lin_val (i := 1) (v := .bool true) rfl rfl (by rfl) (by intro x hx; go_simp; (first | done | exact rfl)) ?_
  simp only [List.set_cons_succ, List.set_cons_zero]
  refine lin_done ?_
  intro W2 hx
  replace HS := hid hx
  clear hx
  go_wp2
  exact bodyPost_ret (v := .bool true) (by simp [results, Try.results4, go_sem]) rfl ⟨rfl, HS.out.below⟩
set_option maxRecDepth 100000 in
set_option maxHeartbeats 1000000 in
theorem signed_no2 (x0 : P) (x1 : P) (x2 : BitVec 64) (ha : leI x0.lo x0.hi = true) (hb : leI x1.lo x1.hi = false) (w : World) :
    Calls Try.prog 4 #[.agg #[.int .i64 (ti (x0.lo)), .int .i64 (ti (x0.hi))], .agg #[.int .i64 (ti (x1.lo)), .int .i64 (ti (x1.hi))], .int .i64 (ti (x2))] w fun e w' => e = .returned (.bool true) ∧ Below w.heap.size w w' := by
  have Hha := hid ha
  clear ha
  have Hhb := hid hb
  clear hb
  go_enter Try.func4, Try.ntmps4
  have HS := hid (((st_nil w).alloc (k := w.heap.size) rfl [.int .i64 (ti (x0.lo)), .int .i64 (ti (x0.hi))] 38).alloc (k := w.heap.size + 1) (by simp) [.int .i64 (ti (x1.lo)), .int .i64 (ti (x1.hi))] 38)
  -- region 1
  go_upto_region 1 with fail
  refine lin_begin (St w [⟨w.heap.size, [some (.int .i64 (ti (x0.lo))), some (.int .i64 (ti (x0.hi)))], 38⟩, ⟨w.heap.size + 1, [some (.int .i64 (ti (x1.lo))), some (.int .i64 (ti (x1.hi)))], 38⟩]) rfl HS.out ?_
  refine lin_val (i := 0) (v := .agg #[.int .i64 (ti (x0.lo)), .int .i64 (ti (x0.hi))]) rfl rfl (by rfl) (by intro x hx; have f0 := hx.load 0 0 rfl rfl; have f1 := hx.load 0 1 rfl rfl; go_simp; (first | done | exact rfl)) ?_
  simp only [List.set_cons_succ, List.set_cons_zero]
  refine lin_call (i := 1) (f := 47) (args := #[.agg #[.int .i64 (ti (x0.lo)), .int .i64 (ti (x0.hi))]]) (v := .bool true) (st_ups _ _) rfl rfl (by rfl) (fun x hx => by kernel_rfl) (by intro x hx; exact calls_is (ref_Smay_any x0 _) (congrArg Value.bool (Hha.out))) ?_
  simp only [List.set_cons_succ, List.set_cons_zero]
  refine lin_val (i := 2) (v := .bool false) rfl rfl (by rfl) (by intro x hx; go_simp; (first | done | exact rfl)) ?_
  simp only [List.set_cons_succ, List.set_cons_zero]
  refine lin_val (i := 3) (v := .bool false) rfl rfl (by rfl) (by intro x hx; go_simp; (first | done | exact rfl)) ?_
  simp only [List.set_cons_succ, List.set_cons_zero]
  refine lin_val (i := 4) (v := .agg #[.int .i64 (ti (x1.lo)), .int .i64 (ti (x1.hi))]) rfl rfl (by rfl) (by intro x hx; have f0 := hx.load 1 0 rfl rfl; have f1 := hx.load 1 1 rfl rfl; go_simp; (first | done | exact rfl)) ?_
  simp only [List.set_cons_succ, List.set_cons_zero]
  refine lin_call (i := 5) (f := 47) (args := #[.agg #[.int .i64 (ti (x1.lo)), .int .i64 (ti (x1.hi))]]) (v := .bool false) (st_ups _ _) rfl rfl (by rfl) (fun x hx => by kernel_rfl) (by intro x hx; exact calls_is (ref_Smay_any x1 _) (congrArg Value.bool (Hhb.out))) ?_
  simp only [List.set_cons_succ, List.set_cons_zero]
  refine lin_val (i := 6) (v := .bool true) rfl rfl (by rfl) (by intro x hx; go_simp; (first | done | exact rfl)) ?_
  simp only [List.set_cons_succ, List.set_cons_zero]
  refine lin_val (i := 7) (v := .bool true) rfl rfl (by rfl) (by intro x hx; go_simp; (first | done | exact rfl)) ?_
  simp only [List.set_cons_succ, List.set_cons_zero]
  refine lin_done ?_
  intro W1 hx
  replace HS := hid hx
  clear hx
  -- region 2
  go_upto_region 2 with fail
  refine lin_begin (St w [⟨w.heap.size, [some (.int .i64 (ti (x0.lo))), some (.int .i64 (ti (x0.hi)))], 38⟩, ⟨w.heap.size + 1, [some (.int .i64 (ti (x1.lo))), some (.int .i64 (ti (x1.hi)))], 38⟩]) rfl HS.out ?_
  refine lin_call (i := 0) (f := 12) (args := #[]) (v := .bool true) (st_ups _ _) rfl rfl (by rfl) (fun x hx => by kernel_rfl) (by intro x hx; exact law_known_any _) ?_
  simp only [List.set_cons_succ, List.set_cons_zero]
  refine lin_val (i := 1) (v := .bool true) rfl rfl (by rfl) (by intro x hx; go_simp; (first | done | exact rfl)) ?_
  simp only [List.set_cons_succ, List.set_cons_zero]
  refine lin_done ?_
  intro W2 hx
  replace HS := hid hx
  clear hx
  go_wp2
  exact bodyPost_ret (v := .bool true) (by simp [results, Try.results4, go_sem]) rfl ⟨rfl, HS.out.below⟩
end Go.Proofs.Ytoojdndfjfmemaa.Sp
