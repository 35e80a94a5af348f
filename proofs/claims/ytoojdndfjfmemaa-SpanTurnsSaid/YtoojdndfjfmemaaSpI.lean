/-
  The walk of the law SpanTurns.
-/
import Derived.Deep.DeepCutAuto
import Derived.Test.YtoojdndfjfmemaaSpF
namespace Go.Proofs.Ytoojdndfjfmemaa.Sp
open Go.RowKit Go.Proofs.Ytoojdndfjfmemaa.Num Go.Proofs.Ytoojdndfjfmemaa.Up
set_option maxRecDepth 100000 in
set_option maxHeartbeats 2000000 in
theorem turns_0 (x0 : P) (x1 : P) (x2 : P) (ha : leU x0.lo x0.hi = false) (hb : leI x1.lo x1.hi = false) (hc : (x2.lo &&& x2.hi == 0#64) = false) (w : World) :
    Calls Try.prog 5 #[.agg #[.int .u64 (tn (x0.lo)), .int .u64 (tn (x0.hi))], .agg #[.int .i64 (ti (x1.lo)), .int .i64 (ti (x1.hi))], .agg #[.int .u64 (tn (x2.lo)), .int .u64 (tn (x2.hi))]] w fun e w' => e = .returned (.bool true) ∧ Below w.heap.size w w' := by
  have Hha := hid ha
  clear ha
  have Hhb := hid hb
  clear hb
  have Hhc := hid hc
  clear hc
  go_enter Try.func5, Try.ntmps5
  have HS := hid ((((st_nil w).alloc (k := w.heap.size) rfl [.int .u64 (tn (x0.lo)), .int .u64 (tn (x0.hi))] 24).alloc (k := w.heap.size + 1) (by simp) [.int .i64 (ti (x1.lo)), .int .i64 (ti (x1.hi))] 38).alloc (k := w.heap.size + 2) (by simp) [.int .u64 (tn (x2.lo)), .int .u64 (tn (x2.hi))] 51)
  -- region 1
  go_upto_region 1 with fail
  refine up_begin (St w [⟨w.heap.size, [some (.int .u64 (tn (x0.lo))), some (.int .u64 (tn (x0.hi)))], 24⟩, ⟨w.heap.size + 1, [some (.int .i64 (ti (x1.lo))), some (.int .i64 (ti (x1.hi)))], 38⟩, ⟨w.heap.size + 2, [some (.int .u64 (tn (x2.lo))), some (.int .u64 (tn (x2.hi)))], 51⟩]) 16 rfl (by kernel_rfl) (HS.out.drew) ?_
  refine take_val (i := 0) (v := .agg #[.int .u64 (tn (x0.lo)), .int .u64 (tn (x0.hi))]) (st_ups _ _) rfl rfl (by kernel_rfl) (fun _ _ _ h => h) (by rfl) (by intro x hx; have f0 := hx.load 0 0 rfl rfl; have f1 := hx.load 0 1 rfl rfl; go_simp; (first | done | exact rfl)) ?_
  simp only [List.set_cons_succ, List.set_cons_zero]
  refine take_call (i := 1) (f := 11) (args := #[.agg #[.int .u64 (tn (x0.lo)), .int .u64 (tn (x0.hi))]]) (v := .bool false) (st_ups _ _) rfl rfl (by kernel_rfl) (fun _ _ _ h => h) (by rfl) (fun x hx => by kernel_rfl) (by intro x hx; exact calls_is (ref_May_any x0 _) (congrArg Value.bool (Hha.out))) ?_
  simp only [List.set_cons_succ, List.set_cons_zero]
  refine take_val (i := 2) (v := .bool false) (st_ups _ _) rfl rfl (by kernel_rfl) (fun _ _ _ h => h) (by rfl) (by intro x hx; go_simp; (first | done | exact rfl)) ?_
  simp only [List.set_cons_succ, List.set_cons_zero]
  refine take_no (i := 3) (st_ups _ _) rfl rfl (by kernel_rfl) (fun _ _ _ h => h) (by kernel_rfl) ?_
  simp only [List.set_cons_succ, List.set_cons_zero]
  refine take_no (i := 4) (st_ups _ _) rfl rfl (by kernel_rfl) (fun _ _ _ h => h) (by kernel_rfl) ?_
  simp only [List.set_cons_succ, List.set_cons_zero]
  refine take_no (i := 5) (st_ups _ _) rfl rfl (by kernel_rfl) (fun _ _ _ h => h) (by kernel_rfl) ?_
  simp only [List.set_cons_succ, List.set_cons_zero]
  refine take_no (i := 6) (st_ups _ _) rfl rfl (by kernel_rfl) (fun _ _ _ h => h) (by kernel_rfl) ?_
  simp only [List.set_cons_succ, List.set_cons_zero]
  refine take_no (i := 7) (st_ups _ _) rfl rfl (by kernel_rfl) (fun _ _ _ h => h) (by kernel_rfl) ?_
  simp only [List.set_cons_succ, List.set_cons_zero]
  refine take_no (i := 8) (st_ups _ _) rfl rfl (by kernel_rfl) (fun _ _ _ h => h) (by kernel_rfl) ?_
  simp only [List.set_cons_succ, List.set_cons_zero]
  refine take_no (i := 9) (st_ups _ _) rfl rfl (by kernel_rfl) (fun _ _ _ h => h) (by kernel_rfl) ?_
  simp only [List.set_cons_succ, List.set_cons_zero]
  refine take_no (i := 10) (st_ups _ _) rfl rfl (by kernel_rfl) (fun _ _ _ h => h) (by kernel_rfl) ?_
  simp only [List.set_cons_succ, List.set_cons_zero]
  refine take_no (i := 11) (st_ups _ _) rfl rfl (by kernel_rfl) (fun _ _ _ h => h) (by kernel_rfl) ?_
  simp only [List.set_cons_succ, List.set_cons_zero]
  refine take_no (i := 12) (st_ups _ _) rfl rfl (by kernel_rfl) (fun _ _ _ h => h) (by kernel_rfl) ?_
  simp only [List.set_cons_succ, List.set_cons_zero]
  refine take_no (i := 13) (st_ups _ _) rfl rfl (by kernel_rfl) (fun _ _ _ h => h) (by kernel_rfl) ?_
  simp only [List.set_cons_succ, List.set_cons_zero]
  refine take_no (i := 14) (st_ups _ _) rfl rfl (by kernel_rfl) (fun _ _ _ h => h) (by kernel_rfl) ?_
  simp only [List.set_cons_succ, List.set_cons_zero]
  refine take_val (i := 15) (v := .bool false) (st_ups _ _) rfl rfl (by kernel_rfl) (fun _ _ _ h => h) (by rfl) (by intro x hx; go_simp; (first | done | exact rfl)) ?_
  simp only [List.set_cons_succ, List.set_cons_zero]
  refine take_done (by kernel_rfl) ?_ _
  intro W1 hx
  replace HS := hid hx
  clear hx
  -- region 3
  go_upto_region 3 with fail
  refine up_begin (St w [⟨w.heap.size, [some (.int .u64 (tn (x0.lo))), some (.int .u64 (tn (x0.hi)))], 24⟩, ⟨w.heap.size + 1, [some (.int .i64 (ti (x1.lo))), some (.int .i64 (ti (x1.hi)))], 38⟩, ⟨w.heap.size + 2, [some (.int .u64 (tn (x2.lo))), some (.int .u64 (tn (x2.hi)))], 51⟩]) 9 rfl (by kernel_rfl) (HS.out.drew) ?_
  refine take_val (i := 0) (v := .agg #[.int .i64 (ti (x1.lo)), .int .i64 (ti (x1.hi))]) (st_ups _ _) rfl rfl (by kernel_rfl) (fun _ _ _ h => h) (by rfl) (by intro x hx; have f0 := hx.load 1 0 rfl rfl; have f1 := hx.load 1 1 rfl rfl; go_simp; (first | done | exact rfl)) ?_
  simp only [List.set_cons_succ, List.set_cons_zero]
  refine take_call (i := 1) (f := 47) (args := #[.agg #[.int .i64 (ti (x1.lo)), .int .i64 (ti (x1.hi))]]) (v := .bool false) (st_ups _ _) rfl rfl (by kernel_rfl) (fun _ _ _ h => h) (by rfl) (fun x hx => by kernel_rfl) (by intro x hx; exact calls_is (ref_Smay_any x1 _) (congrArg Value.bool (Hhb.out))) ?_
  simp only [List.set_cons_succ, List.set_cons_zero]
  refine take_val (i := 2) (v := .bool false) (st_ups _ _) rfl rfl (by kernel_rfl) (fun _ _ _ h => h) (by rfl) (by intro x hx; go_simp; (first | done | exact rfl)) ?_
  simp only [List.set_cons_succ, List.set_cons_zero]
  refine take_no (i := 3) (st_ups _ _) rfl rfl (by kernel_rfl) (fun _ _ _ h => h) (by kernel_rfl) ?_
  simp only [List.set_cons_succ, List.set_cons_zero]
  refine take_no (i := 4) (st_ups _ _) rfl rfl (by kernel_rfl) (fun _ _ _ h => h) (by kernel_rfl) ?_
  simp only [List.set_cons_succ, List.set_cons_zero]
  refine take_no (i := 5) (st_ups _ _) rfl rfl (by kernel_rfl) (fun _ _ _ h => h) (by kernel_rfl) ?_
  simp only [List.set_cons_succ, List.set_cons_zero]
  refine take_no (i := 6) (st_ups _ _) rfl rfl (by kernel_rfl) (fun _ _ _ h => h) (by kernel_rfl) ?_
  simp only [List.set_cons_succ, List.set_cons_zero]
  refine take_no (i := 7) (st_ups _ _) rfl rfl (by kernel_rfl) (fun _ _ _ h => h) (by kernel_rfl) ?_
  simp only [List.set_cons_succ, List.set_cons_zero]
  refine take_val (i := 8) (v := .bool false) (st_ups _ _) rfl rfl (by kernel_rfl) (fun _ _ _ h => h) (by rfl) (by intro x hx; go_simp; (first | done | exact rfl)) ?_
  simp only [List.set_cons_succ, List.set_cons_zero]
  refine take_done (by kernel_rfl) ?_ _
  intro W2 hx
  replace HS := hid hx
  clear hx
  -- region 5
  go_upto_region 5 with fail
  refine up_begin (St w [⟨w.heap.size, [some (.int .u64 (tn (x0.lo))), some (.int .u64 (tn (x0.hi)))], 24⟩, ⟨w.heap.size + 1, [some (.int .i64 (ti (x1.lo))), some (.int .i64 (ti (x1.hi)))], 38⟩, ⟨w.heap.size + 2, [some (.int .u64 (tn (x2.lo))), some (.int .u64 (tn (x2.hi)))], 51⟩]) 21 rfl (by kernel_rfl) (HS.out.drew) ?_
  refine take_val (i := 0) (v := .agg #[.int .u64 (tn (x2.lo)), .int .u64 (tn (x2.hi))]) (st_ups _ _) rfl rfl (by kernel_rfl) (fun _ _ _ h => h) (by rfl) (by intro x hx; have f0 := hx.load 2 0 rfl rfl; have f1 := hx.load 2 1 rfl rfl; go_simp; (first | done | exact rfl)) ?_
  simp only [List.set_cons_succ, List.set_cons_zero]
  refine take_call (i := 1) (f := 74) (args := #[.agg #[.int .u64 (tn (x2.lo)), .int .u64 (tn (x2.hi))]]) (v := .bool false) (st_ups _ _) rfl rfl (by kernel_rfl) (fun _ _ _ h => h) (by rfl) (fun x hx => by kernel_rfl) (by intro x hx; exact calls_is (ref_Tmay_any x2 _) (congrArg Value.bool (Hhc.out))) ?_
  simp only [List.set_cons_succ, List.set_cons_zero]
  refine take_val (i := 2) (v := .bool true) (st_ups _ _) rfl rfl (by kernel_rfl) (fun _ _ _ h => h) (by rfl) (by intro x hx; go_simp; (first | done | exact rfl)) ?_
  simp only [List.set_cons_succ, List.set_cons_zero]
  refine take_val (i := 3) (v := .bool true) (st_ups _ _) rfl rfl (by kernel_rfl) (fun _ _ _ h => h) (by rfl) (by intro x hx; go_simp; (first | done | exact rfl)) ?_
  simp only [List.set_cons_succ, List.set_cons_zero]
  refine take_no (i := 4) (st_ups _ _) rfl rfl (by kernel_rfl) (fun _ _ _ h => h) (by kernel_rfl) ?_
  simp only [List.set_cons_succ, List.set_cons_zero]
  refine take_no (i := 5) (st_ups _ _) rfl rfl (by kernel_rfl) (fun _ _ _ h => h) (by kernel_rfl) ?_
  simp only [List.set_cons_succ, List.set_cons_zero]
  refine take_no (i := 6) (st_ups _ _) rfl rfl (by kernel_rfl) (fun _ _ _ h => h) (by kernel_rfl) ?_
  simp only [List.set_cons_succ, List.set_cons_zero]
  refine take_no (i := 7) (st_ups _ _) rfl rfl (by kernel_rfl) (fun _ _ _ h => h) (by kernel_rfl) ?_
  simp only [List.set_cons_succ, List.set_cons_zero]
  refine take_no (i := 8) (st_ups _ _) rfl rfl (by kernel_rfl) (fun _ _ _ h => h) (by kernel_rfl) ?_
  simp only [List.set_cons_succ, List.set_cons_zero]
  refine take_no (i := 9) (st_ups _ _) rfl rfl (by kernel_rfl) (fun _ _ _ h => h) (by kernel_rfl) ?_
  simp only [List.set_cons_succ, List.set_cons_zero]
  refine take_no (i := 10) (st_ups _ _) rfl rfl (by kernel_rfl) (fun _ _ _ h => h) (by kernel_rfl) ?_
  simp only [List.set_cons_succ, List.set_cons_zero]
  refine take_no (i := 11) (st_ups _ _) rfl rfl (by kernel_rfl) (fun _ _ _ h => h) (by kernel_rfl) ?_
  simp only [List.set_cons_succ, List.set_cons_zero]
  refine take_no (i := 12) (st_ups _ _) rfl rfl (by kernel_rfl) (fun _ _ _ h => h) (by kernel_rfl) ?_
  simp only [List.set_cons_succ, List.set_cons_zero]
  refine take_no (i := 13) (st_ups _ _) rfl rfl (by kernel_rfl) (fun _ _ _ h => h) (by kernel_rfl) ?_
  simp only [List.set_cons_succ, List.set_cons_zero]
  refine take_no (i := 14) (st_ups _ _) rfl rfl (by kernel_rfl) (fun _ _ _ h => h) (by kernel_rfl) ?_
  simp only [List.set_cons_succ, List.set_cons_zero]
  refine take_no (i := 15) (st_ups _ _) rfl rfl (by kernel_rfl) (fun _ _ _ h => h) (by kernel_rfl) ?_
  simp only [List.set_cons_succ, List.set_cons_zero]
  refine take_val (i := 16) (v := .bool true) (st_ups _ _) rfl rfl (by kernel_rfl) (fun _ _ _ h => h) (by rfl) (by intro x hx; go_simp; (first | done | exact rfl)) ?_
  simp only [List.set_cons_succ, List.set_cons_zero]
  refine take_val (i := 17) (v := .bool true) (st_ups _ _) rfl rfl (by kernel_rfl) (fun _ _ _ h => h) (by rfl) (by intro x hx; go_simp; (first | done | exact rfl)) ?_
  simp only [List.set_cons_succ, List.set_cons_zero]
  refine take_call (i := 18) (f := 12) (args := #[]) (v := .bool true) (st_ups _ _) rfl rfl (by kernel_rfl) (fun _ _ _ h => h) (by rfl) (fun x hx => by kernel_rfl) (by intro x hx; exact law_known_any _) ?_
  simp only [List.set_cons_succ, List.set_cons_zero]
  refine take_val (i := 19) (v := .bool true) (st_ups _ _) rfl rfl (by kernel_rfl) (fun _ _ _ h => h) (by rfl) (by intro x hx; go_simp; (first | done | exact rfl)) ?_
  simp only [List.set_cons_succ, List.set_cons_zero]
  refine take_val (i := 20) (v := .bool true) (st_ups _ _) rfl rfl (by kernel_rfl) (fun _ _ _ h => h) (by rfl) (by intro x hx; go_simp; (first | done | exact rfl)) ?_
  simp only [List.set_cons_succ, List.set_cons_zero]
  refine take_done (by kernel_rfl) ?_ _
  intro W3 hx
  replace HS := hid hx
  clear hx
  go_wp2
  exact bodyPost_ret (v := .bool true) (by simp [results, Try.results5, go_sem]) rfl ⟨rfl, HS.out.below⟩
set_option maxRecDepth 100000 in
set_option maxHeartbeats 2000000 in
theorem turns_1 (x0 : P) (x1 : P) (x2 : P) (ha : leU x0.lo x0.hi = true) (hb : leI x1.lo x1.hi = false) (hc : (x2.lo &&& x2.hi == 0#64) = false) (w : World) :
    Calls Try.prog 5 #[.agg #[.int .u64 (tn (x0.lo)), .int .u64 (tn (x0.hi))], .agg #[.int .i64 (ti (x1.lo)), .int .i64 (ti (x1.hi))], .agg #[.int .u64 (tn (x2.lo)), .int .u64 (tn (x2.hi))]] w fun e w' => e = .returned (.bool true) ∧ Below w.heap.size w w' := by
  have Hha := hid ha
  clear ha
  have Hhb := hid hb
  clear hb
  have Hhc := hid hc
  clear hc
  go_enter Try.func5, Try.ntmps5
  have HS := hid ((((st_nil w).alloc (k := w.heap.size) rfl [.int .u64 (tn (x0.lo)), .int .u64 (tn (x0.hi))] 24).alloc (k := w.heap.size + 1) (by simp) [.int .i64 (ti (x1.lo)), .int .i64 (ti (x1.hi))] 38).alloc (k := w.heap.size + 2) (by simp) [.int .u64 (tn (x2.lo)), .int .u64 (tn (x2.hi))] 51)
  -- region 1
  go_upto_region 1 with fail
  refine up_begin (St w [⟨w.heap.size, [some (.int .u64 (tn (x0.lo))), some (.int .u64 (tn (x0.hi)))], 24⟩, ⟨w.heap.size + 1, [some (.int .i64 (ti (x1.lo))), some (.int .i64 (ti (x1.hi)))], 38⟩, ⟨w.heap.size + 2, [some (.int .u64 (tn (x2.lo))), some (.int .u64 (tn (x2.hi)))], 51⟩]) 16 rfl (by kernel_rfl) (HS.out.drew) ?_
  refine take_val (i := 0) (v := .agg #[.int .u64 (tn (x0.lo)), .int .u64 (tn (x0.hi))]) (st_ups _ _) rfl rfl (by kernel_rfl) (fun _ _ _ h => h) (by rfl) (by intro x hx; have f0 := hx.load 0 0 rfl rfl; have f1 := hx.load 0 1 rfl rfl; go_simp; (first | done | exact rfl)) ?_
  simp only [List.set_cons_succ, List.set_cons_zero]
  refine take_call (i := 1) (f := 11) (args := #[.agg #[.int .u64 (tn (x0.lo)), .int .u64 (tn (x0.hi))]]) (v := .bool true) (st_ups _ _) rfl rfl (by kernel_rfl) (fun _ _ _ h => h) (by rfl) (fun x hx => by kernel_rfl) (by intro x hx; exact calls_is (ref_May_any x0 _) (congrArg Value.bool (Hha.out))) ?_
  simp only [List.set_cons_succ, List.set_cons_zero]
  refine take_val (i := 2) (v := .bool true) (st_ups _ _) rfl rfl (by kernel_rfl) (fun _ _ _ h => h) (by rfl) (by intro x hx; go_simp; (first | done | exact rfl)) ?_
  simp only [List.set_cons_succ, List.set_cons_zero]
  refine take_val (i := 3) (v := .agg #[.int .u64 (tn (x0.lo)), .int .u64 (tn (x0.hi))]) (st_ups _ _) rfl rfl (by kernel_rfl) (fun _ _ _ h => h) (by rfl) (by intro x hx; have f0 := hx.load 0 0 rfl rfl; have f1 := hx.load 0 1 rfl rfl; go_simp; (first | done | exact rfl)) ?_
  simp only [List.set_cons_succ, List.set_cons_zero]
  refine take_call (i := 4) (f := 68) (args := #[.agg #[.int .u64 (tn (x0.lo)), .int .u64 (tn (x0.hi))]]) (v := .agg #[.int .i64 (ti ((span_ToSigned x0).lo)), .int .i64 (ti ((span_ToSigned x0).hi))]) (st_ups _ _) rfl rfl (by kernel_rfl) (fun _ _ _ h => h) (by rfl) (fun x hx => by kernel_rfl) (by intro x hx; exact span_ToSigned_any x0 _) ?_
  simp only [List.set_cons_succ, List.set_cons_zero]
  refine take_val (i := 5) (v := .agg #[.int .u64 (tn (x0.lo)), .int .u64 (tn (x0.hi))]) (st_ups _ _) rfl rfl (by kernel_rfl) (fun _ _ _ h => h) (by rfl) (by intro x hx; have f0 := hx.load 0 0 rfl rfl; have f1 := hx.load 0 1 rfl rfl; go_simp; (first | done | exact rfl)) ?_
  simp only [List.set_cons_succ, List.set_cons_zero]
  refine take_call (i := 6) (f := 69) (args := #[.agg #[.int .u64 (tn (x0.lo)), .int .u64 (tn (x0.hi))]]) (v := .agg #[.int .i64 (ti ((span_ToSigned x0).lo)), .int .i64 (ti ((span_ToSigned x0).hi))]) (st_ups _ _) rfl rfl (by kernel_rfl) (fun _ _ _ h => h) (by rfl) (fun x hx => by kernel_rfl) (by intro x hx; exact calls_is (ref_ToSigned_any x0 _) (congrArg (fun rr : P => (.agg #[.int .i64 (ti (rr.lo)), .int .i64 (ti (rr.hi))] : Value)) (toSigned_is x0))) ?_
  simp only [List.set_cons_succ, List.set_cons_zero]
  refine take_val (i := 7) (v := .bool false) (st_ups _ _) rfl rfl (by kernel_rfl) (fun _ _ _ h => h) (by rfl) (by intro x hx; go_simp; (first | done | exact rfl)) ?_
  simp only [List.set_cons_succ, List.set_cons_zero]
  refine take_val (i := 8) (v := .bool false) (st_ups _ _) rfl rfl (by kernel_rfl) (fun _ _ _ h => h) (by rfl) (by intro x hx; go_simp; (first | done | exact rfl)) ?_
  simp only [List.set_cons_succ, List.set_cons_zero]
  refine take_val (i := 9) (v := .agg #[.int .u64 (tn (x0.lo)), .int .u64 (tn (x0.hi))]) (st_ups _ _) rfl rfl (by kernel_rfl) (fun _ _ _ h => h) (by rfl) (by intro x hx; have f0 := hx.load 0 0 rfl rfl; have f1 := hx.load 0 1 rfl rfl; go_simp; (first | done | exact rfl)) ?_
  simp only [List.set_cons_succ, List.set_cons_zero]
  refine take_call (i := 10) (f := 70) (args := #[.agg #[.int .u64 (tn (x0.lo)), .int .u64 (tn (x0.hi))]]) (v := .agg #[.int .u64 (tn (x0.lo &&& ~~~(onesV (x0.lo ^^^ x0.hi)))), .int .u64 (tn (onesV (x0.lo ^^^ x0.hi)))]) (st_ups _ _) rfl rfl (by kernel_rfl) (fun _ _ _ h => h) (by rfl) (fun x hx => by kernel_rfl) (by intro x hx; exact span_Bits_any x0 _) ?_
  simp only [List.set_cons_succ, List.set_cons_zero]
  refine take_val (i := 11) (v := .agg #[.int .u64 (tn (x0.lo)), .int .u64 (tn (x0.hi))]) (st_ups _ _) rfl rfl (by kernel_rfl) (fun _ _ _ h => h) (by rfl) (by intro x hx; have f0 := hx.load 0 0 rfl rfl; have f1 := hx.load 0 1 rfl rfl; go_simp; (first | done | exact rfl)) ?_
  simp only [List.set_cons_succ, List.set_cons_zero]
  refine take_call (i := 12) (f := 71) (args := #[.agg #[.int .u64 (tn (x0.lo)), .int .u64 (tn (x0.hi))]]) (v := .agg #[.int .u64 (tn (x0.lo &&& ~~~(onesV (x0.lo ^^^ x0.hi)))), .int .u64 (tn (onesV (x0.lo ^^^ x0.hi)))]) (st_ups _ _) rfl rfl (by kernel_rfl) (fun _ _ _ h => h) (by rfl) (fun x hx => by kernel_rfl) (by intro x hx; exact calls_is (ref_Bits_any x0 _) (congrArg (fun rr : P => (.agg #[.int .u64 (tn (rr.lo)), .int .u64 (tn (rr.hi))] : Value)) (bits_is x0))) ?_
  simp only [List.set_cons_succ, List.set_cons_zero]
  refine take_val (i := 13) (v := .bool false) (st_ups _ _) rfl rfl (by kernel_rfl) (fun _ _ _ h => h) (by rfl) (by intro x hx; go_simp; (first | done | exact rfl)) ?_
  simp only [List.set_cons_succ, List.set_cons_zero]
  refine take_val (i := 14) (v := .bool false) (st_ups _ _) rfl rfl (by kernel_rfl) (fun _ _ _ h => h) (by rfl) (by intro x hx; go_simp; (first | done | exact rfl)) ?_
  simp only [List.set_cons_succ, List.set_cons_zero]
  refine take_val (i := 15) (v := .bool false) (st_ups _ _) rfl rfl (by kernel_rfl) (fun _ _ _ h => h) (by rfl) (by intro x hx; go_simp; (first | done | exact rfl)) ?_
  simp only [List.set_cons_succ, List.set_cons_zero]
  refine take_done (by kernel_rfl) ?_ _
  intro W1 hx
  replace HS := hid hx
  clear hx
  -- region 3
  go_upto_region 3 with fail
  refine up_begin (St w [⟨w.heap.size, [some (.int .u64 (tn (x0.lo))), some (.int .u64 (tn (x0.hi)))], 24⟩, ⟨w.heap.size + 1, [some (.int .i64 (ti (x1.lo))), some (.int .i64 (ti (x1.hi)))], 38⟩, ⟨w.heap.size + 2, [some (.int .u64 (tn (x2.lo))), some (.int .u64 (tn (x2.hi)))], 51⟩]) 9 rfl (by kernel_rfl) (HS.out.drew) ?_
  refine take_val (i := 0) (v := .agg #[.int .i64 (ti (x1.lo)), .int .i64 (ti (x1.hi))]) (st_ups _ _) rfl rfl (by kernel_rfl) (fun _ _ _ h => h) (by rfl) (by intro x hx; have f0 := hx.load 1 0 rfl rfl; have f1 := hx.load 1 1 rfl rfl; go_simp; (first | done | exact rfl)) ?_
  simp only [List.set_cons_succ, List.set_cons_zero]
  refine take_call (i := 1) (f := 47) (args := #[.agg #[.int .i64 (ti (x1.lo)), .int .i64 (ti (x1.hi))]]) (v := .bool false) (st_ups _ _) rfl rfl (by kernel_rfl) (fun _ _ _ h => h) (by rfl) (fun x hx => by kernel_rfl) (by intro x hx; exact calls_is (ref_Smay_any x1 _) (congrArg Value.bool (Hhb.out))) ?_
  simp only [List.set_cons_succ, List.set_cons_zero]
  refine take_val (i := 2) (v := .bool false) (st_ups _ _) rfl rfl (by kernel_rfl) (fun _ _ _ h => h) (by rfl) (by intro x hx; go_simp; (first | done | exact rfl)) ?_
  simp only [List.set_cons_succ, List.set_cons_zero]
  refine take_no (i := 3) (st_ups _ _) rfl rfl (by kernel_rfl) (fun _ _ _ h => h) (by kernel_rfl) ?_
  simp only [List.set_cons_succ, List.set_cons_zero]
  refine take_no (i := 4) (st_ups _ _) rfl rfl (by kernel_rfl) (fun _ _ _ h => h) (by kernel_rfl) ?_
  simp only [List.set_cons_succ, List.set_cons_zero]
  refine take_no (i := 5) (st_ups _ _) rfl rfl (by kernel_rfl) (fun _ _ _ h => h) (by kernel_rfl) ?_
  simp only [List.set_cons_succ, List.set_cons_zero]
  refine take_no (i := 6) (st_ups _ _) rfl rfl (by kernel_rfl) (fun _ _ _ h => h) (by kernel_rfl) ?_
  simp only [List.set_cons_succ, List.set_cons_zero]
  refine take_no (i := 7) (st_ups _ _) rfl rfl (by kernel_rfl) (fun _ _ _ h => h) (by kernel_rfl) ?_
  simp only [List.set_cons_succ, List.set_cons_zero]
  refine take_val (i := 8) (v := .bool false) (st_ups _ _) rfl rfl (by kernel_rfl) (fun _ _ _ h => h) (by rfl) (by intro x hx; go_simp; (first | done | exact rfl)) ?_
  simp only [List.set_cons_succ, List.set_cons_zero]
  refine take_done (by kernel_rfl) ?_ _
  intro W2 hx
  replace HS := hid hx
  clear hx
  -- region 5
  go_upto_region 5 with fail
  refine up_begin (St w [⟨w.heap.size, [some (.int .u64 (tn (x0.lo))), some (.int .u64 (tn (x0.hi)))], 24⟩, ⟨w.heap.size + 1, [some (.int .i64 (ti (x1.lo))), some (.int .i64 (ti (x1.hi)))], 38⟩, ⟨w.heap.size + 2, [some (.int .u64 (tn (x2.lo))), some (.int .u64 (tn (x2.hi)))], 51⟩]) 21 rfl (by kernel_rfl) (HS.out.drew) ?_
  refine take_val (i := 0) (v := .agg #[.int .u64 (tn (x2.lo)), .int .u64 (tn (x2.hi))]) (st_ups _ _) rfl rfl (by kernel_rfl) (fun _ _ _ h => h) (by rfl) (by intro x hx; have f0 := hx.load 2 0 rfl rfl; have f1 := hx.load 2 1 rfl rfl; go_simp; (first | done | exact rfl)) ?_
  simp only [List.set_cons_succ, List.set_cons_zero]
  refine take_call (i := 1) (f := 74) (args := #[.agg #[.int .u64 (tn (x2.lo)), .int .u64 (tn (x2.hi))]]) (v := .bool false) (st_ups _ _) rfl rfl (by kernel_rfl) (fun _ _ _ h => h) (by rfl) (fun x hx => by kernel_rfl) (by intro x hx; exact calls_is (ref_Tmay_any x2 _) (congrArg Value.bool (Hhc.out))) ?_
  simp only [List.set_cons_succ, List.set_cons_zero]
  refine take_val (i := 2) (v := .bool true) (st_ups _ _) rfl rfl (by kernel_rfl) (fun _ _ _ h => h) (by rfl) (by intro x hx; go_simp; (first | done | exact rfl)) ?_
  simp only [List.set_cons_succ, List.set_cons_zero]
  refine take_val (i := 3) (v := .bool true) (st_ups _ _) rfl rfl (by kernel_rfl) (fun _ _ _ h => h) (by rfl) (by intro x hx; go_simp; (first | done | exact rfl)) ?_
  simp only [List.set_cons_succ, List.set_cons_zero]
  refine take_no (i := 4) (st_ups _ _) rfl rfl (by kernel_rfl) (fun _ _ _ h => h) (by kernel_rfl) ?_
  simp only [List.set_cons_succ, List.set_cons_zero]
  refine take_no (i := 5) (st_ups _ _) rfl rfl (by kernel_rfl) (fun _ _ _ h => h) (by kernel_rfl) ?_
  simp only [List.set_cons_succ, List.set_cons_zero]
  refine take_no (i := 6) (st_ups _ _) rfl rfl (by kernel_rfl) (fun _ _ _ h => h) (by kernel_rfl) ?_
  simp only [List.set_cons_succ, List.set_cons_zero]
  refine take_no (i := 7) (st_ups _ _) rfl rfl (by kernel_rfl) (fun _ _ _ h => h) (by kernel_rfl) ?_
  simp only [List.set_cons_succ, List.set_cons_zero]
  refine take_no (i := 8) (st_ups _ _) rfl rfl (by kernel_rfl) (fun _ _ _ h => h) (by kernel_rfl) ?_
  simp only [List.set_cons_succ, List.set_cons_zero]
  refine take_no (i := 9) (st_ups _ _) rfl rfl (by kernel_rfl) (fun _ _ _ h => h) (by kernel_rfl) ?_
  simp only [List.set_cons_succ, List.set_cons_zero]
  refine take_no (i := 10) (st_ups _ _) rfl rfl (by kernel_rfl) (fun _ _ _ h => h) (by kernel_rfl) ?_
  simp only [List.set_cons_succ, List.set_cons_zero]
  refine take_no (i := 11) (st_ups _ _) rfl rfl (by kernel_rfl) (fun _ _ _ h => h) (by kernel_rfl) ?_
  simp only [List.set_cons_succ, List.set_cons_zero]
  refine take_no (i := 12) (st_ups _ _) rfl rfl (by kernel_rfl) (fun _ _ _ h => h) (by kernel_rfl) ?_
  simp only [List.set_cons_succ, List.set_cons_zero]
  refine take_no (i := 13) (st_ups _ _) rfl rfl (by kernel_rfl) (fun _ _ _ h => h) (by kernel_rfl) ?_
  simp only [List.set_cons_succ, List.set_cons_zero]
  refine take_no (i := 14) (st_ups _ _) rfl rfl (by kernel_rfl) (fun _ _ _ h => h) (by kernel_rfl) ?_
  simp only [List.set_cons_succ, List.set_cons_zero]
  refine take_no (i := 15) (st_ups _ _) rfl rfl (by kernel_rfl) (fun _ _ _ h => h) (by kernel_rfl) ?_
  simp only [List.set_cons_succ, List.set_cons_zero]
  refine take_val (i := 16) (v := .bool true) (st_ups _ _) rfl rfl (by kernel_rfl) (fun _ _ _ h => h) (by rfl) (by intro x hx; go_simp; (first | done | exact rfl)) ?_
  simp only [List.set_cons_succ, List.set_cons_zero]
  refine take_val (i := 17) (v := .bool true) (st_ups _ _) rfl rfl (by kernel_rfl) (fun _ _ _ h => h) (by rfl) (by intro x hx; go_simp; (first | done | exact rfl)) ?_
  simp only [List.set_cons_succ, List.set_cons_zero]
  refine take_call (i := 18) (f := 12) (args := #[]) (v := .bool true) (st_ups _ _) rfl rfl (by kernel_rfl) (fun _ _ _ h => h) (by rfl) (fun x hx => by kernel_rfl) (by intro x hx; exact law_known_any _) ?_
  simp only [List.set_cons_succ, List.set_cons_zero]
  refine take_val (i := 19) (v := .bool true) (st_ups _ _) rfl rfl (by kernel_rfl) (fun _ _ _ h => h) (by rfl) (by intro x hx; go_simp; (first | done | exact rfl)) ?_
  simp only [List.set_cons_succ, List.set_cons_zero]
  refine take_val (i := 20) (v := .bool true) (st_ups _ _) rfl rfl (by kernel_rfl) (fun _ _ _ h => h) (by rfl) (by intro x hx; go_simp; (first | done | exact rfl)) ?_
  simp only [List.set_cons_succ, List.set_cons_zero]
  refine take_done (by kernel_rfl) ?_ _
  intro W3 hx
  replace HS := hid hx
  clear hx
  go_wp2
  exact bodyPost_ret (v := .bool true) (by simp [results, Try.results5, go_sem]) rfl ⟨rfl, HS.out.below⟩
set_option maxRecDepth 100000 in
set_option maxHeartbeats 2000000 in
theorem turns_2 (x0 : P) (x1 : P) (x2 : P) (ha : leU x0.lo x0.hi = false) (hb : leI x1.lo x1.hi = true) (hc : (x2.lo &&& x2.hi == 0#64) = false) (w : World) :
    Calls Try.prog 5 #[.agg #[.int .u64 (tn (x0.lo)), .int .u64 (tn (x0.hi))], .agg #[.int .i64 (ti (x1.lo)), .int .i64 (ti (x1.hi))], .agg #[.int .u64 (tn (x2.lo)), .int .u64 (tn (x2.hi))]] w fun e w' => e = .returned (.bool true) ∧ Below w.heap.size w w' := by
  have Hha := hid ha
  clear ha
  have Hhb := hid hb
  clear hb
  have Hhc := hid hc
  clear hc
  go_enter Try.func5, Try.ntmps5
  have HS := hid ((((st_nil w).alloc (k := w.heap.size) rfl [.int .u64 (tn (x0.lo)), .int .u64 (tn (x0.hi))] 24).alloc (k := w.heap.size + 1) (by simp) [.int .i64 (ti (x1.lo)), .int .i64 (ti (x1.hi))] 38).alloc (k := w.heap.size + 2) (by simp) [.int .u64 (tn (x2.lo)), .int .u64 (tn (x2.hi))] 51)
  -- region 1
  go_upto_region 1 with fail
  refine up_begin (St w [⟨w.heap.size, [some (.int .u64 (tn (x0.lo))), some (.int .u64 (tn (x0.hi)))], 24⟩, ⟨w.heap.size + 1, [some (.int .i64 (ti (x1.lo))), some (.int .i64 (ti (x1.hi)))], 38⟩, ⟨w.heap.size + 2, [some (.int .u64 (tn (x2.lo))), some (.int .u64 (tn (x2.hi)))], 51⟩]) 16 rfl (by kernel_rfl) (HS.out.drew) ?_
  refine take_val (i := 0) (v := .agg #[.int .u64 (tn (x0.lo)), .int .u64 (tn (x0.hi))]) (st_ups _ _) rfl rfl (by kernel_rfl) (fun _ _ _ h => h) (by rfl) (by intro x hx; have f0 := hx.load 0 0 rfl rfl; have f1 := hx.load 0 1 rfl rfl; go_simp; (first | done | exact rfl)) ?_
  simp only [List.set_cons_succ, List.set_cons_zero]
  refine take_call (i := 1) (f := 11) (args := #[.agg #[.int .u64 (tn (x0.lo)), .int .u64 (tn (x0.hi))]]) (v := .bool false) (st_ups _ _) rfl rfl (by kernel_rfl) (fun _ _ _ h => h) (by rfl) (fun x hx => by kernel_rfl) (by intro x hx; exact calls_is (ref_May_any x0 _) (congrArg Value.bool (Hha.out))) ?_
  simp only [List.set_cons_succ, List.set_cons_zero]
  refine take_val (i := 2) (v := .bool false) (st_ups _ _) rfl rfl (by kernel_rfl) (fun _ _ _ h => h) (by rfl) (by intro x hx; go_simp; (first | done | exact rfl)) ?_
  simp only [List.set_cons_succ, List.set_cons_zero]
  refine take_no (i := 3) (st_ups _ _) rfl rfl (by kernel_rfl) (fun _ _ _ h => h) (by kernel_rfl) ?_
  simp only [List.set_cons_succ, List.set_cons_zero]
  refine take_no (i := 4) (st_ups _ _) rfl rfl (by kernel_rfl) (fun _ _ _ h => h) (by kernel_rfl) ?_
  simp only [List.set_cons_succ, List.set_cons_zero]
  refine take_no (i := 5) (st_ups _ _) rfl rfl (by kernel_rfl) (fun _ _ _ h => h) (by kernel_rfl) ?_
  simp only [List.set_cons_succ, List.set_cons_zero]
  refine take_no (i := 6) (st_ups _ _) rfl rfl (by kernel_rfl) (fun _ _ _ h => h) (by kernel_rfl) ?_
  simp only [List.set_cons_succ, List.set_cons_zero]
  refine take_no (i := 7) (st_ups _ _) rfl rfl (by kernel_rfl) (fun _ _ _ h => h) (by kernel_rfl) ?_
  simp only [List.set_cons_succ, List.set_cons_zero]
  refine take_no (i := 8) (st_ups _ _) rfl rfl (by kernel_rfl) (fun _ _ _ h => h) (by kernel_rfl) ?_
  simp only [List.set_cons_succ, List.set_cons_zero]
  refine take_no (i := 9) (st_ups _ _) rfl rfl (by kernel_rfl) (fun _ _ _ h => h) (by kernel_rfl) ?_
  simp only [List.set_cons_succ, List.set_cons_zero]
  refine take_no (i := 10) (st_ups _ _) rfl rfl (by kernel_rfl) (fun _ _ _ h => h) (by kernel_rfl) ?_
  simp only [List.set_cons_succ, List.set_cons_zero]
  refine take_no (i := 11) (st_ups _ _) rfl rfl (by kernel_rfl) (fun _ _ _ h => h) (by kernel_rfl) ?_
  simp only [List.set_cons_succ, List.set_cons_zero]
  refine take_no (i := 12) (st_ups _ _) rfl rfl (by kernel_rfl) (fun _ _ _ h => h) (by kernel_rfl) ?_
  simp only [List.set_cons_succ, List.set_cons_zero]
  refine take_no (i := 13) (st_ups _ _) rfl rfl (by kernel_rfl) (fun _ _ _ h => h) (by kernel_rfl) ?_
  simp only [List.set_cons_succ, List.set_cons_zero]
  refine take_no (i := 14) (st_ups _ _) rfl rfl (by kernel_rfl) (fun _ _ _ h => h) (by kernel_rfl) ?_
  simp only [List.set_cons_succ, List.set_cons_zero]
  refine take_val (i := 15) (v := .bool false) (st_ups _ _) rfl rfl (by kernel_rfl) (fun _ _ _ h => h) (by rfl) (by intro x hx; go_simp; (first | done | exact rfl)) ?_
  simp only [List.set_cons_succ, List.set_cons_zero]
  refine take_done (by kernel_rfl) ?_ _
  intro W1 hx
  replace HS := hid hx
  clear hx
  -- region 3
  go_upto_region 3 with fail
  refine up_begin (St w [⟨w.heap.size, [some (.int .u64 (tn (x0.lo))), some (.int .u64 (tn (x0.hi)))], 24⟩, ⟨w.heap.size + 1, [some (.int .i64 (ti (x1.lo))), some (.int .i64 (ti (x1.hi)))], 38⟩, ⟨w.heap.size + 2, [some (.int .u64 (tn (x2.lo))), some (.int .u64 (tn (x2.hi)))], 51⟩]) 9 rfl (by kernel_rfl) (HS.out.drew) ?_
  refine take_val (i := 0) (v := .agg #[.int .i64 (ti (x1.lo)), .int .i64 (ti (x1.hi))]) (st_ups _ _) rfl rfl (by kernel_rfl) (fun _ _ _ h => h) (by rfl) (by intro x hx; have f0 := hx.load 1 0 rfl rfl; have f1 := hx.load 1 1 rfl rfl; go_simp; (first | done | exact rfl)) ?_
  simp only [List.set_cons_succ, List.set_cons_zero]
  refine take_call (i := 1) (f := 47) (args := #[.agg #[.int .i64 (ti (x1.lo)), .int .i64 (ti (x1.hi))]]) (v := .bool true) (st_ups _ _) rfl rfl (by kernel_rfl) (fun _ _ _ h => h) (by rfl) (fun x hx => by kernel_rfl) (by intro x hx; exact calls_is (ref_Smay_any x1 _) (congrArg Value.bool (Hhb.out))) ?_
  simp only [List.set_cons_succ, List.set_cons_zero]
  refine take_val (i := 2) (v := .bool true) (st_ups _ _) rfl rfl (by kernel_rfl) (fun _ _ _ h => h) (by rfl) (by intro x hx; go_simp; (first | done | exact rfl)) ?_
  simp only [List.set_cons_succ, List.set_cons_zero]
  refine take_val (i := 3) (v := .agg #[.int .i64 (ti (x1.lo)), .int .i64 (ti (x1.hi))]) (st_ups _ _) rfl rfl (by kernel_rfl) (fun _ _ _ h => h) (by rfl) (by intro x hx; have f0 := hx.load 1 0 rfl rfl; have f1 := hx.load 1 1 rfl rfl; go_simp; (first | done | exact rfl)) ?_
  simp only [List.set_cons_succ, List.set_cons_zero]
  refine take_call (i := 4) (f := 72) (args := #[.agg #[.int .i64 (ti (x1.lo)), .int .i64 (ti (x1.hi))]]) (v := .agg #[.int .u64 (tn ((span_ToSpan x1).lo)), .int .u64 (tn ((span_ToSpan x1).hi))]) (st_ups _ _) rfl rfl (by kernel_rfl) (fun _ _ _ h => h) (by rfl) (fun x hx => by kernel_rfl) (by intro x hx; exact span_ToSpan_any x1 _) ?_
  simp only [List.set_cons_succ, List.set_cons_zero]
  refine take_val (i := 5) (v := .agg #[.int .i64 (ti (x1.lo)), .int .i64 (ti (x1.hi))]) (st_ups _ _) rfl rfl (by kernel_rfl) (fun _ _ _ h => h) (by rfl) (by intro x hx; have f0 := hx.load 1 0 rfl rfl; have f1 := hx.load 1 1 rfl rfl; go_simp; (first | done | exact rfl)) ?_
  simp only [List.set_cons_succ, List.set_cons_zero]
  refine take_call (i := 6) (f := 73) (args := #[.agg #[.int .i64 (ti (x1.lo)), .int .i64 (ti (x1.hi))]]) (v := .agg #[.int .u64 (tn ((span_ToSpan x1).lo)), .int .u64 (tn ((span_ToSpan x1).hi))]) (st_ups _ _) rfl rfl (by kernel_rfl) (fun _ _ _ h => h) (by rfl) (fun x hx => by kernel_rfl) (by intro x hx; exact calls_is (ref_ToSpan_any x1 _) (congrArg (fun rr : P => (.agg #[.int .u64 (tn (rr.lo)), .int .u64 (tn (rr.hi))] : Value)) (toSpan_is x1))) ?_
  simp only [List.set_cons_succ, List.set_cons_zero]
  refine take_val (i := 7) (v := .bool false) (st_ups _ _) rfl rfl (by kernel_rfl) (fun _ _ _ h => h) (by rfl) (by intro x hx; go_simp; (first | done | exact rfl)) ?_
  simp only [List.set_cons_succ, List.set_cons_zero]
  refine take_val (i := 8) (v := .bool false) (st_ups _ _) rfl rfl (by kernel_rfl) (fun _ _ _ h => h) (by rfl) (by intro x hx; go_simp; (first | done | exact rfl)) ?_
  simp only [List.set_cons_succ, List.set_cons_zero]
  refine take_done (by kernel_rfl) ?_ _
  intro W2 hx
  replace HS := hid hx
  clear hx
  -- region 5
  go_upto_region 5 with fail
  refine up_begin (St w [⟨w.heap.size, [some (.int .u64 (tn (x0.lo))), some (.int .u64 (tn (x0.hi)))], 24⟩, ⟨w.heap.size + 1, [some (.int .i64 (ti (x1.lo))), some (.int .i64 (ti (x1.hi)))], 38⟩, ⟨w.heap.size + 2, [some (.int .u64 (tn (x2.lo))), some (.int .u64 (tn (x2.hi)))], 51⟩]) 21 rfl (by kernel_rfl) (HS.out.drew) ?_
  refine take_val (i := 0) (v := .agg #[.int .u64 (tn (x2.lo)), .int .u64 (tn (x2.hi))]) (st_ups _ _) rfl rfl (by kernel_rfl) (fun _ _ _ h => h) (by rfl) (by intro x hx; have f0 := hx.load 2 0 rfl rfl; have f1 := hx.load 2 1 rfl rfl; go_simp; (first | done | exact rfl)) ?_
  simp only [List.set_cons_succ, List.set_cons_zero]
  refine take_call (i := 1) (f := 74) (args := #[.agg #[.int .u64 (tn (x2.lo)), .int .u64 (tn (x2.hi))]]) (v := .bool false) (st_ups _ _) rfl rfl (by kernel_rfl) (fun _ _ _ h => h) (by rfl) (fun x hx => by kernel_rfl) (by intro x hx; exact calls_is (ref_Tmay_any x2 _) (congrArg Value.bool (Hhc.out))) ?_
  simp only [List.set_cons_succ, List.set_cons_zero]
  refine take_val (i := 2) (v := .bool true) (st_ups _ _) rfl rfl (by kernel_rfl) (fun _ _ _ h => h) (by rfl) (by intro x hx; go_simp; (first | done | exact rfl)) ?_
  simp only [List.set_cons_succ, List.set_cons_zero]
  refine take_val (i := 3) (v := .bool true) (st_ups _ _) rfl rfl (by kernel_rfl) (fun _ _ _ h => h) (by rfl) (by intro x hx; go_simp; (first | done | exact rfl)) ?_
  simp only [List.set_cons_succ, List.set_cons_zero]
  refine take_no (i := 4) (st_ups _ _) rfl rfl (by kernel_rfl) (fun _ _ _ h => h) (by kernel_rfl) ?_
  simp only [List.set_cons_succ, List.set_cons_zero]
  refine take_no (i := 5) (st_ups _ _) rfl rfl (by kernel_rfl) (fun _ _ _ h => h) (by kernel_rfl) ?_
  simp only [List.set_cons_succ, List.set_cons_zero]
  refine take_no (i := 6) (st_ups _ _) rfl rfl (by kernel_rfl) (fun _ _ _ h => h) (by kernel_rfl) ?_
  simp only [List.set_cons_succ, List.set_cons_zero]
  refine take_no (i := 7) (st_ups _ _) rfl rfl (by kernel_rfl) (fun _ _ _ h => h) (by kernel_rfl) ?_
  simp only [List.set_cons_succ, List.set_cons_zero]
  refine take_no (i := 8) (st_ups _ _) rfl rfl (by kernel_rfl) (fun _ _ _ h => h) (by kernel_rfl) ?_
  simp only [List.set_cons_succ, List.set_cons_zero]
  refine take_no (i := 9) (st_ups _ _) rfl rfl (by kernel_rfl) (fun _ _ _ h => h) (by kernel_rfl) ?_
  simp only [List.set_cons_succ, List.set_cons_zero]
  refine take_no (i := 10) (st_ups _ _) rfl rfl (by kernel_rfl) (fun _ _ _ h => h) (by kernel_rfl) ?_
  simp only [List.set_cons_succ, List.set_cons_zero]
  refine take_no (i := 11) (st_ups _ _) rfl rfl (by kernel_rfl) (fun _ _ _ h => h) (by kernel_rfl) ?_
  simp only [List.set_cons_succ, List.set_cons_zero]
  refine take_no (i := 12) (st_ups _ _) rfl rfl (by kernel_rfl) (fun _ _ _ h => h) (by kernel_rfl) ?_
  simp only [List.set_cons_succ, List.set_cons_zero]
  refine take_no (i := 13) (st_ups _ _) rfl rfl (by kernel_rfl) (fun _ _ _ h => h) (by kernel_rfl) ?_
  simp only [List.set_cons_succ, List.set_cons_zero]
  refine take_no (i := 14) (st_ups _ _) rfl rfl (by kernel_rfl) (fun _ _ _ h => h) (by kernel_rfl) ?_
  simp only [List.set_cons_succ, List.set_cons_zero]
  refine take_no (i := 15) (st_ups _ _) rfl rfl (by kernel_rfl) (fun _ _ _ h => h) (by kernel_rfl) ?_
  simp only [List.set_cons_succ, List.set_cons_zero]
  refine take_val (i := 16) (v := .bool true) (st_ups _ _) rfl rfl (by kernel_rfl) (fun _ _ _ h => h) (by rfl) (by intro x hx; go_simp; (first | done | exact rfl)) ?_
  simp only [List.set_cons_succ, List.set_cons_zero]
  refine take_val (i := 17) (v := .bool true) (st_ups _ _) rfl rfl (by kernel_rfl) (fun _ _ _ h => h) (by rfl) (by intro x hx; go_simp; (first | done | exact rfl)) ?_
  simp only [List.set_cons_succ, List.set_cons_zero]
  refine take_call (i := 18) (f := 12) (args := #[]) (v := .bool true) (st_ups _ _) rfl rfl (by kernel_rfl) (fun _ _ _ h => h) (by rfl) (fun x hx => by kernel_rfl) (by intro x hx; exact law_known_any _) ?_
  simp only [List.set_cons_succ, List.set_cons_zero]
  refine take_val (i := 19) (v := .bool true) (st_ups _ _) rfl rfl (by kernel_rfl) (fun _ _ _ h => h) (by rfl) (by intro x hx; go_simp; (first | done | exact rfl)) ?_
  simp only [List.set_cons_succ, List.set_cons_zero]
  refine take_val (i := 20) (v := .bool true) (st_ups _ _) rfl rfl (by kernel_rfl) (fun _ _ _ h => h) (by rfl) (by intro x hx; go_simp; (first | done | exact rfl)) ?_
  simp only [List.set_cons_succ, List.set_cons_zero]
  refine take_done (by kernel_rfl) ?_ _
  intro W3 hx
  replace HS := hid hx
  clear hx
  go_wp2
  exact bodyPost_ret (v := .bool true) (by simp [results, Try.results5, go_sem]) rfl ⟨rfl, HS.out.below⟩
set_option maxRecDepth 100000 in
set_option maxHeartbeats 2000000 in
theorem turns_3 (x0 : P) (x1 : P) (x2 : P) (ha : leU x0.lo x0.hi = true) (hb : leI x1.lo x1.hi = true) (hc : (x2.lo &&& x2.hi == 0#64) = false) (w : World) :
    Calls Try.prog 5 #[.agg #[.int .u64 (tn (x0.lo)), .int .u64 (tn (x0.hi))], .agg #[.int .i64 (ti (x1.lo)), .int .i64 (ti (x1.hi))], .agg #[.int .u64 (tn (x2.lo)), .int .u64 (tn (x2.hi))]] w fun e w' => e = .returned (.bool true) ∧ Below w.heap.size w w' := by
  have Hha := hid ha
  clear ha
  have Hhb := hid hb
  clear hb
  have Hhc := hid hc
  clear hc
  go_enter Try.func5, Try.ntmps5
  have HS := hid ((((st_nil w).alloc (k := w.heap.size) rfl [.int .u64 (tn (x0.lo)), .int .u64 (tn (x0.hi))] 24).alloc (k := w.heap.size + 1) (by simp) [.int .i64 (ti (x1.lo)), .int .i64 (ti (x1.hi))] 38).alloc (k := w.heap.size + 2) (by simp) [.int .u64 (tn (x2.lo)), .int .u64 (tn (x2.hi))] 51)
  -- region 1
  go_upto_region 1 with fail
  refine up_begin (St w [⟨w.heap.size, [some (.int .u64 (tn (x0.lo))), some (.int .u64 (tn (x0.hi)))], 24⟩, ⟨w.heap.size + 1, [some (.int .i64 (ti (x1.lo))), some (.int .i64 (ti (x1.hi)))], 38⟩, ⟨w.heap.size + 2, [some (.int .u64 (tn (x2.lo))), some (.int .u64 (tn (x2.hi)))], 51⟩]) 16 rfl (by kernel_rfl) (HS.out.drew) ?_
  refine take_val (i := 0) (v := .agg #[.int .u64 (tn (x0.lo)), .int .u64 (tn (x0.hi))]) (st_ups _ _) rfl rfl (by kernel_rfl) (fun _ _ _ h => h) (by rfl) (by intro x hx; have f0 := hx.load 0 0 rfl rfl; have f1 := hx.load 0 1 rfl rfl; go_simp; (first | done | exact rfl)) ?_
  simp only [List.set_cons_succ, List.set_cons_zero]
  refine take_call (i := 1) (f := 11) (args := #[.agg #[.int .u64 (tn (x0.lo)), .int .u64 (tn (x0.hi))]]) (v := .bool true) (st_ups _ _) rfl rfl (by kernel_rfl) (fun _ _ _ h => h) (by rfl) (fun x hx => by kernel_rfl) (by intro x hx; exact calls_is (ref_May_any x0 _) (congrArg Value.bool (Hha.out))) ?_
  simp only [List.set_cons_succ, List.set_cons_zero]
  refine take_val (i := 2) (v := .bool true) (st_ups _ _) rfl rfl (by kernel_rfl) (fun _ _ _ h => h) (by rfl) (by intro x hx; go_simp; (first | done | exact rfl)) ?_
  simp only [List.set_cons_succ, List.set_cons_zero]
  refine take_val (i := 3) (v := .agg #[.int .u64 (tn (x0.lo)), .int .u64 (tn (x0.hi))]) (st_ups _ _) rfl rfl (by kernel_rfl) (fun _ _ _ h => h) (by rfl) (by intro x hx; have f0 := hx.load 0 0 rfl rfl; have f1 := hx.load 0 1 rfl rfl; go_simp; (first | done | exact rfl)) ?_
  simp only [List.set_cons_succ, List.set_cons_zero]
  refine take_call (i := 4) (f := 68) (args := #[.agg #[.int .u64 (tn (x0.lo)), .int .u64 (tn (x0.hi))]]) (v := .agg #[.int .i64 (ti ((span_ToSigned x0).lo)), .int .i64 (ti ((span_ToSigned x0).hi))]) (st_ups _ _) rfl rfl (by kernel_rfl) (fun _ _ _ h => h) (by rfl) (fun x hx => by kernel_rfl) (by intro x hx; exact span_ToSigned_any x0 _) ?_
  simp only [List.set_cons_succ, List.set_cons_zero]
  refine take_val (i := 5) (v := .agg #[.int .u64 (tn (x0.lo)), .int .u64 (tn (x0.hi))]) (st_ups _ _) rfl rfl (by kernel_rfl) (fun _ _ _ h => h) (by rfl) (by intro x hx; have f0 := hx.load 0 0 rfl rfl; have f1 := hx.load 0 1 rfl rfl; go_simp; (first | done | exact rfl)) ?_
  simp only [List.set_cons_succ, List.set_cons_zero]
  refine take_call (i := 6) (f := 69) (args := #[.agg #[.int .u64 (tn (x0.lo)), .int .u64 (tn (x0.hi))]]) (v := .agg #[.int .i64 (ti ((span_ToSigned x0).lo)), .int .i64 (ti ((span_ToSigned x0).hi))]) (st_ups _ _) rfl rfl (by kernel_rfl) (fun _ _ _ h => h) (by rfl) (fun x hx => by kernel_rfl) (by intro x hx; exact calls_is (ref_ToSigned_any x0 _) (congrArg (fun rr : P => (.agg #[.int .i64 (ti (rr.lo)), .int .i64 (ti (rr.hi))] : Value)) (toSigned_is x0))) ?_
  simp only [List.set_cons_succ, List.set_cons_zero]
  refine take_val (i := 7) (v := .bool false) (st_ups _ _) rfl rfl (by kernel_rfl) (fun _ _ _ h => h) (by rfl) (by intro x hx; go_simp; (first | done | exact rfl)) ?_
  simp only [List.set_cons_succ, List.set_cons_zero]
  refine take_val (i := 8) (v := .bool false) (st_ups _ _) rfl rfl (by kernel_rfl) (fun _ _ _ h => h) (by rfl) (by intro x hx; go_simp; (first | done | exact rfl)) ?_
  simp only [List.set_cons_succ, List.set_cons_zero]
  refine take_val (i := 9) (v := .agg #[.int .u64 (tn (x0.lo)), .int .u64 (tn (x0.hi))]) (st_ups _ _) rfl rfl (by kernel_rfl) (fun _ _ _ h => h) (by rfl) (by intro x hx; have f0 := hx.load 0 0 rfl rfl; have f1 := hx.load 0 1 rfl rfl; go_simp; (first | done | exact rfl)) ?_
  simp only [List.set_cons_succ, List.set_cons_zero]
  refine take_call (i := 10) (f := 70) (args := #[.agg #[.int .u64 (tn (x0.lo)), .int .u64 (tn (x0.hi))]]) (v := .agg #[.int .u64 (tn (x0.lo &&& ~~~(onesV (x0.lo ^^^ x0.hi)))), .int .u64 (tn (onesV (x0.lo ^^^ x0.hi)))]) (st_ups _ _) rfl rfl (by kernel_rfl) (fun _ _ _ h => h) (by rfl) (fun x hx => by kernel_rfl) (by intro x hx; exact span_Bits_any x0 _) ?_
  simp only [List.set_cons_succ, List.set_cons_zero]
  refine take_val (i := 11) (v := .agg #[.int .u64 (tn (x0.lo)), .int .u64 (tn (x0.hi))]) (st_ups _ _) rfl rfl (by kernel_rfl) (fun _ _ _ h => h) (by rfl) (by intro x hx; have f0 := hx.load 0 0 rfl rfl; have f1 := hx.load 0 1 rfl rfl; go_simp; (first | done | exact rfl)) ?_
  simp only [List.set_cons_succ, List.set_cons_zero]
  refine take_call (i := 12) (f := 71) (args := #[.agg #[.int .u64 (tn (x0.lo)), .int .u64 (tn (x0.hi))]]) (v := .agg #[.int .u64 (tn (x0.lo &&& ~~~(onesV (x0.lo ^^^ x0.hi)))), .int .u64 (tn (onesV (x0.lo ^^^ x0.hi)))]) (st_ups _ _) rfl rfl (by kernel_rfl) (fun _ _ _ h => h) (by rfl) (fun x hx => by kernel_rfl) (by intro x hx; exact calls_is (ref_Bits_any x0 _) (congrArg (fun rr : P => (.agg #[.int .u64 (tn (rr.lo)), .int .u64 (tn (rr.hi))] : Value)) (bits_is x0))) ?_
  simp only [List.set_cons_succ, List.set_cons_zero]
  refine take_val (i := 13) (v := .bool false) (st_ups _ _) rfl rfl (by kernel_rfl) (fun _ _ _ h => h) (by rfl) (by intro x hx; go_simp; (first | done | exact rfl)) ?_
  simp only [List.set_cons_succ, List.set_cons_zero]
  refine take_val (i := 14) (v := .bool false) (st_ups _ _) rfl rfl (by kernel_rfl) (fun _ _ _ h => h) (by rfl) (by intro x hx; go_simp; (first | done | exact rfl)) ?_
  simp only [List.set_cons_succ, List.set_cons_zero]
  refine take_val (i := 15) (v := .bool false) (st_ups _ _) rfl rfl (by kernel_rfl) (fun _ _ _ h => h) (by rfl) (by intro x hx; go_simp; (first | done | exact rfl)) ?_
  simp only [List.set_cons_succ, List.set_cons_zero]
  refine take_done (by kernel_rfl) ?_ _
  intro W1 hx
  replace HS := hid hx
  clear hx
  -- region 3
  go_upto_region 3 with fail
  refine up_begin (St w [⟨w.heap.size, [some (.int .u64 (tn (x0.lo))), some (.int .u64 (tn (x0.hi)))], 24⟩, ⟨w.heap.size + 1, [some (.int .i64 (ti (x1.lo))), some (.int .i64 (ti (x1.hi)))], 38⟩, ⟨w.heap.size + 2, [some (.int .u64 (tn (x2.lo))), some (.int .u64 (tn (x2.hi)))], 51⟩]) 9 rfl (by kernel_rfl) (HS.out.drew) ?_
  refine take_val (i := 0) (v := .agg #[.int .i64 (ti (x1.lo)), .int .i64 (ti (x1.hi))]) (st_ups _ _) rfl rfl (by kernel_rfl) (fun _ _ _ h => h) (by rfl) (by intro x hx; have f0 := hx.load 1 0 rfl rfl; have f1 := hx.load 1 1 rfl rfl; go_simp; (first | done | exact rfl)) ?_
  simp only [List.set_cons_succ, List.set_cons_zero]
  refine take_call (i := 1) (f := 47) (args := #[.agg #[.int .i64 (ti (x1.lo)), .int .i64 (ti (x1.hi))]]) (v := .bool true) (st_ups _ _) rfl rfl (by kernel_rfl) (fun _ _ _ h => h) (by rfl) (fun x hx => by kernel_rfl) (by intro x hx; exact calls_is (ref_Smay_any x1 _) (congrArg Value.bool (Hhb.out))) ?_
  simp only [List.set_cons_succ, List.set_cons_zero]
  refine take_val (i := 2) (v := .bool true) (st_ups _ _) rfl rfl (by kernel_rfl) (fun _ _ _ h => h) (by rfl) (by intro x hx; go_simp; (first | done | exact rfl)) ?_
  simp only [List.set_cons_succ, List.set_cons_zero]
  refine take_val (i := 3) (v := .agg #[.int .i64 (ti (x1.lo)), .int .i64 (ti (x1.hi))]) (st_ups _ _) rfl rfl (by kernel_rfl) (fun _ _ _ h => h) (by rfl) (by intro x hx; have f0 := hx.load 1 0 rfl rfl; have f1 := hx.load 1 1 rfl rfl; go_simp; (first | done | exact rfl)) ?_
  simp only [List.set_cons_succ, List.set_cons_zero]
  refine take_call (i := 4) (f := 72) (args := #[.agg #[.int .i64 (ti (x1.lo)), .int .i64 (ti (x1.hi))]]) (v := .agg #[.int .u64 (tn ((span_ToSpan x1).lo)), .int .u64 (tn ((span_ToSpan x1).hi))]) (st_ups _ _) rfl rfl (by kernel_rfl) (fun _ _ _ h => h) (by rfl) (fun x hx => by kernel_rfl) (by intro x hx; exact span_ToSpan_any x1 _) ?_
  simp only [List.set_cons_succ, List.set_cons_zero]
  refine take_val (i := 5) (v := .agg #[.int .i64 (ti (x1.lo)), .int .i64 (ti (x1.hi))]) (st_ups _ _) rfl rfl (by kernel_rfl) (fun _ _ _ h => h) (by rfl) (by intro x hx; have f0 := hx.load 1 0 rfl rfl; have f1 := hx.load 1 1 rfl rfl; go_simp; (first | done | exact rfl)) ?_
  simp only [List.set_cons_succ, List.set_cons_zero]
  refine take_call (i := 6) (f := 73) (args := #[.agg #[.int .i64 (ti (x1.lo)), .int .i64 (ti (x1.hi))]]) (v := .agg #[.int .u64 (tn ((span_ToSpan x1).lo)), .int .u64 (tn ((span_ToSpan x1).hi))]) (st_ups _ _) rfl rfl (by kernel_rfl) (fun _ _ _ h => h) (by rfl) (fun x hx => by kernel_rfl) (by intro x hx; exact calls_is (ref_ToSpan_any x1 _) (congrArg (fun rr : P => (.agg #[.int .u64 (tn (rr.lo)), .int .u64 (tn (rr.hi))] : Value)) (toSpan_is x1))) ?_
  simp only [List.set_cons_succ, List.set_cons_zero]
  refine take_val (i := 7) (v := .bool false) (st_ups _ _) rfl rfl (by kernel_rfl) (fun _ _ _ h => h) (by rfl) (by intro x hx; go_simp; (first | done | exact rfl)) ?_
  simp only [List.set_cons_succ, List.set_cons_zero]
  refine take_val (i := 8) (v := .bool false) (st_ups _ _) rfl rfl (by kernel_rfl) (fun _ _ _ h => h) (by rfl) (by intro x hx; go_simp; (first | done | exact rfl)) ?_
  simp only [List.set_cons_succ, List.set_cons_zero]
  refine take_done (by kernel_rfl) ?_ _
  intro W2 hx
  replace HS := hid hx
  clear hx
  -- region 5
  go_upto_region 5 with fail
  refine up_begin (St w [⟨w.heap.size, [some (.int .u64 (tn (x0.lo))), some (.int .u64 (tn (x0.hi)))], 24⟩, ⟨w.heap.size + 1, [some (.int .i64 (ti (x1.lo))), some (.int .i64 (ti (x1.hi)))], 38⟩, ⟨w.heap.size + 2, [some (.int .u64 (tn (x2.lo))), some (.int .u64 (tn (x2.hi)))], 51⟩]) 21 rfl (by kernel_rfl) (HS.out.drew) ?_
  refine take_val (i := 0) (v := .agg #[.int .u64 (tn (x2.lo)), .int .u64 (tn (x2.hi))]) (st_ups _ _) rfl rfl (by kernel_rfl) (fun _ _ _ h => h) (by rfl) (by intro x hx; have f0 := hx.load 2 0 rfl rfl; have f1 := hx.load 2 1 rfl rfl; go_simp; (first | done | exact rfl)) ?_
  simp only [List.set_cons_succ, List.set_cons_zero]
  refine take_call (i := 1) (f := 74) (args := #[.agg #[.int .u64 (tn (x2.lo)), .int .u64 (tn (x2.hi))]]) (v := .bool false) (st_ups _ _) rfl rfl (by kernel_rfl) (fun _ _ _ h => h) (by rfl) (fun x hx => by kernel_rfl) (by intro x hx; exact calls_is (ref_Tmay_any x2 _) (congrArg Value.bool (Hhc.out))) ?_
  simp only [List.set_cons_succ, List.set_cons_zero]
  refine take_val (i := 2) (v := .bool true) (st_ups _ _) rfl rfl (by kernel_rfl) (fun _ _ _ h => h) (by rfl) (by intro x hx; go_simp; (first | done | exact rfl)) ?_
  simp only [List.set_cons_succ, List.set_cons_zero]
  refine take_val (i := 3) (v := .bool true) (st_ups _ _) rfl rfl (by kernel_rfl) (fun _ _ _ h => h) (by rfl) (by intro x hx; go_simp; (first | done | exact rfl)) ?_
  simp only [List.set_cons_succ, List.set_cons_zero]
  refine take_no (i := 4) (st_ups _ _) rfl rfl (by kernel_rfl) (fun _ _ _ h => h) (by kernel_rfl) ?_
  simp only [List.set_cons_succ, List.set_cons_zero]
  refine take_no (i := 5) (st_ups _ _) rfl rfl (by kernel_rfl) (fun _ _ _ h => h) (by kernel_rfl) ?_
  simp only [List.set_cons_succ, List.set_cons_zero]
  refine take_no (i := 6) (st_ups _ _) rfl rfl (by kernel_rfl) (fun _ _ _ h => h) (by kernel_rfl) ?_
  simp only [List.set_cons_succ, List.set_cons_zero]
  refine take_no (i := 7) (st_ups _ _) rfl rfl (by kernel_rfl) (fun _ _ _ h => h) (by kernel_rfl) ?_
  simp only [List.set_cons_succ, List.set_cons_zero]
  refine take_no (i := 8) (st_ups _ _) rfl rfl (by kernel_rfl) (fun _ _ _ h => h) (by kernel_rfl) ?_
  simp only [List.set_cons_succ, List.set_cons_zero]
  refine take_no (i := 9) (st_ups _ _) rfl rfl (by kernel_rfl) (fun _ _ _ h => h) (by kernel_rfl) ?_
  simp only [List.set_cons_succ, List.set_cons_zero]
  refine take_no (i := 10) (st_ups _ _) rfl rfl (by kernel_rfl) (fun _ _ _ h => h) (by kernel_rfl) ?_
  simp only [List.set_cons_succ, List.set_cons_zero]
  refine take_no (i := 11) (st_ups _ _) rfl rfl (by kernel_rfl) (fun _ _ _ h => h) (by kernel_rfl) ?_
  simp only [List.set_cons_succ, List.set_cons_zero]
  refine take_no (i := 12) (st_ups _ _) rfl rfl (by kernel_rfl) (fun _ _ _ h => h) (by kernel_rfl) ?_
  simp only [List.set_cons_succ, List.set_cons_zero]
  refine take_no (i := 13) (st_ups _ _) rfl rfl (by kernel_rfl) (fun _ _ _ h => h) (by kernel_rfl) ?_
  simp only [List.set_cons_succ, List.set_cons_zero]
  refine take_no (i := 14) (st_ups _ _) rfl rfl (by kernel_rfl) (fun _ _ _ h => h) (by kernel_rfl) ?_
  simp only [List.set_cons_succ, List.set_cons_zero]
  refine take_no (i := 15) (st_ups _ _) rfl rfl (by kernel_rfl) (fun _ _ _ h => h) (by kernel_rfl) ?_
  simp only [List.set_cons_succ, List.set_cons_zero]
  refine take_val (i := 16) (v := .bool true) (st_ups _ _) rfl rfl (by kernel_rfl) (fun _ _ _ h => h) (by rfl) (by intro x hx; go_simp; (first | done | exact rfl)) ?_
  simp only [List.set_cons_succ, List.set_cons_zero]
  refine take_val (i := 17) (v := .bool true) (st_ups _ _) rfl rfl (by kernel_rfl) (fun _ _ _ h => h) (by rfl) (by intro x hx; go_simp; (first | done | exact rfl)) ?_
  simp only [List.set_cons_succ, List.set_cons_zero]
  refine take_call (i := 18) (f := 12) (args := #[]) (v := .bool true) (st_ups _ _) rfl rfl (by kernel_rfl) (fun _ _ _ h => h) (by rfl) (fun x hx => by kernel_rfl) (by intro x hx; exact law_known_any _) ?_
  simp only [List.set_cons_succ, List.set_cons_zero]
  refine take_val (i := 19) (v := .bool true) (st_ups _ _) rfl rfl (by kernel_rfl) (fun _ _ _ h => h) (by rfl) (by intro x hx; go_simp; (first | done | exact rfl)) ?_
  simp only [List.set_cons_succ, List.set_cons_zero]
  refine take_val (i := 20) (v := .bool true) (st_ups _ _) rfl rfl (by kernel_rfl) (fun _ _ _ h => h) (by rfl) (by intro x hx; go_simp; (first | done | exact rfl)) ?_
  simp only [List.set_cons_succ, List.set_cons_zero]
  refine take_done (by kernel_rfl) ?_ _
  intro W3 hx
  replace HS := hid hx
  clear hx
  go_wp2
  exact bodyPost_ret (v := .bool true) (by simp [results, Try.results5, go_sem]) rfl ⟨rfl, HS.out.below⟩
set_option maxRecDepth 100000 in
set_option maxHeartbeats 2000000 in
theorem turns_4 (x0 : P) (x1 : P) (x2 : P) (ha : leU x0.lo x0.hi = false) (hb : leI x1.lo x1.hi = false) (hc : (x2.lo &&& x2.hi == 0#64) = true) (w : World) :
    Calls Try.prog 5 #[.agg #[.int .u64 (tn (x0.lo)), .int .u64 (tn (x0.hi))], .agg #[.int .i64 (ti (x1.lo)), .int .i64 (ti (x1.hi))], .agg #[.int .u64 (tn (x2.lo)), .int .u64 (tn (x2.hi))]] w fun e w' => e = .returned (.bool true) ∧ Below w.heap.size w w' := by
  have Hha := hid ha
  clear ha
  have Hhb := hid hb
  clear hb
  have Hhc := hid hc
  clear hc
  go_enter Try.func5, Try.ntmps5
  have HS := hid ((((st_nil w).alloc (k := w.heap.size) rfl [.int .u64 (tn (x0.lo)), .int .u64 (tn (x0.hi))] 24).alloc (k := w.heap.size + 1) (by simp) [.int .i64 (ti (x1.lo)), .int .i64 (ti (x1.hi))] 38).alloc (k := w.heap.size + 2) (by simp) [.int .u64 (tn (x2.lo)), .int .u64 (tn (x2.hi))] 51)
  -- region 1
  go_upto_region 1 with fail
  refine up_begin (St w [⟨w.heap.size, [some (.int .u64 (tn (x0.lo))), some (.int .u64 (tn (x0.hi)))], 24⟩, ⟨w.heap.size + 1, [some (.int .i64 (ti (x1.lo))), some (.int .i64 (ti (x1.hi)))], 38⟩, ⟨w.heap.size + 2, [some (.int .u64 (tn (x2.lo))), some (.int .u64 (tn (x2.hi)))], 51⟩]) 16 rfl (by kernel_rfl) (HS.out.drew) ?_
  refine take_val (i := 0) (v := .agg #[.int .u64 (tn (x0.lo)), .int .u64 (tn (x0.hi))]) (st_ups _ _) rfl rfl (by kernel_rfl) (fun _ _ _ h => h) (by rfl) (by intro x hx; have f0 := hx.load 0 0 rfl rfl; have f1 := hx.load 0 1 rfl rfl; go_simp; (first | done | exact rfl)) ?_
  simp only [List.set_cons_succ, List.set_cons_zero]
  refine take_call (i := 1) (f := 11) (args := #[.agg #[.int .u64 (tn (x0.lo)), .int .u64 (tn (x0.hi))]]) (v := .bool false) (st_ups _ _) rfl rfl (by kernel_rfl) (fun _ _ _ h => h) (by rfl) (fun x hx => by kernel_rfl) (by intro x hx; exact calls_is (ref_May_any x0 _) (congrArg Value.bool (Hha.out))) ?_
  simp only [List.set_cons_succ, List.set_cons_zero]
  refine take_val (i := 2) (v := .bool false) (st_ups _ _) rfl rfl (by kernel_rfl) (fun _ _ _ h => h) (by rfl) (by intro x hx; go_simp; (first | done | exact rfl)) ?_
  simp only [List.set_cons_succ, List.set_cons_zero]
  refine take_no (i := 3) (st_ups _ _) rfl rfl (by kernel_rfl) (fun _ _ _ h => h) (by kernel_rfl) ?_
  simp only [List.set_cons_succ, List.set_cons_zero]
  refine take_no (i := 4) (st_ups _ _) rfl rfl (by kernel_rfl) (fun _ _ _ h => h) (by kernel_rfl) ?_
  simp only [List.set_cons_succ, List.set_cons_zero]
  refine take_no (i := 5) (st_ups _ _) rfl rfl (by kernel_rfl) (fun _ _ _ h => h) (by kernel_rfl) ?_
  simp only [List.set_cons_succ, List.set_cons_zero]
  refine take_no (i := 6) (st_ups _ _) rfl rfl (by kernel_rfl) (fun _ _ _ h => h) (by kernel_rfl) ?_
  simp only [List.set_cons_succ, List.set_cons_zero]
  refine take_no (i := 7) (st_ups _ _) rfl rfl (by kernel_rfl) (fun _ _ _ h => h) (by kernel_rfl) ?_
  simp only [List.set_cons_succ, List.set_cons_zero]
  refine take_no (i := 8) (st_ups _ _) rfl rfl (by kernel_rfl) (fun _ _ _ h => h) (by kernel_rfl) ?_
  simp only [List.set_cons_succ, List.set_cons_zero]
  refine take_no (i := 9) (st_ups _ _) rfl rfl (by kernel_rfl) (fun _ _ _ h => h) (by kernel_rfl) ?_
  simp only [List.set_cons_succ, List.set_cons_zero]
  refine take_no (i := 10) (st_ups _ _) rfl rfl (by kernel_rfl) (fun _ _ _ h => h) (by kernel_rfl) ?_
  simp only [List.set_cons_succ, List.set_cons_zero]
  refine take_no (i := 11) (st_ups _ _) rfl rfl (by kernel_rfl) (fun _ _ _ h => h) (by kernel_rfl) ?_
  simp only [List.set_cons_succ, List.set_cons_zero]
  refine take_no (i := 12) (st_ups _ _) rfl rfl (by kernel_rfl) (fun _ _ _ h => h) (by kernel_rfl) ?_
  simp only [List.set_cons_succ, List.set_cons_zero]
  refine take_no (i := 13) (st_ups _ _) rfl rfl (by kernel_rfl) (fun _ _ _ h => h) (by kernel_rfl) ?_
  simp only [List.set_cons_succ, List.set_cons_zero]
  refine take_no (i := 14) (st_ups _ _) rfl rfl (by kernel_rfl) (fun _ _ _ h => h) (by kernel_rfl) ?_
  simp only [List.set_cons_succ, List.set_cons_zero]
  refine take_val (i := 15) (v := .bool false) (st_ups _ _) rfl rfl (by kernel_rfl) (fun _ _ _ h => h) (by rfl) (by intro x hx; go_simp; (first | done | exact rfl)) ?_
  simp only [List.set_cons_succ, List.set_cons_zero]
  refine take_done (by kernel_rfl) ?_ _
  intro W1 hx
  replace HS := hid hx
  clear hx
  -- region 3
  go_upto_region 3 with fail
  refine up_begin (St w [⟨w.heap.size, [some (.int .u64 (tn (x0.lo))), some (.int .u64 (tn (x0.hi)))], 24⟩, ⟨w.heap.size + 1, [some (.int .i64 (ti (x1.lo))), some (.int .i64 (ti (x1.hi)))], 38⟩, ⟨w.heap.size + 2, [some (.int .u64 (tn (x2.lo))), some (.int .u64 (tn (x2.hi)))], 51⟩]) 9 rfl (by kernel_rfl) (HS.out.drew) ?_
  refine take_val (i := 0) (v := .agg #[.int .i64 (ti (x1.lo)), .int .i64 (ti (x1.hi))]) (st_ups _ _) rfl rfl (by kernel_rfl) (fun _ _ _ h => h) (by rfl) (by intro x hx; have f0 := hx.load 1 0 rfl rfl; have f1 := hx.load 1 1 rfl rfl; go_simp; (first | done | exact rfl)) ?_
  simp only [List.set_cons_succ, List.set_cons_zero]
  refine take_call (i := 1) (f := 47) (args := #[.agg #[.int .i64 (ti (x1.lo)), .int .i64 (ti (x1.hi))]]) (v := .bool false) (st_ups _ _) rfl rfl (by kernel_rfl) (fun _ _ _ h => h) (by rfl) (fun x hx => by kernel_rfl) (by intro x hx; exact calls_is (ref_Smay_any x1 _) (congrArg Value.bool (Hhb.out))) ?_
  simp only [List.set_cons_succ, List.set_cons_zero]
  refine take_val (i := 2) (v := .bool false) (st_ups _ _) rfl rfl (by kernel_rfl) (fun _ _ _ h => h) (by rfl) (by intro x hx; go_simp; (first | done | exact rfl)) ?_
  simp only [List.set_cons_succ, List.set_cons_zero]
  refine take_no (i := 3) (st_ups _ _) rfl rfl (by kernel_rfl) (fun _ _ _ h => h) (by kernel_rfl) ?_
  simp only [List.set_cons_succ, List.set_cons_zero]
  refine take_no (i := 4) (st_ups _ _) rfl rfl (by kernel_rfl) (fun _ _ _ h => h) (by kernel_rfl) ?_
  simp only [List.set_cons_succ, List.set_cons_zero]
  refine take_no (i := 5) (st_ups _ _) rfl rfl (by kernel_rfl) (fun _ _ _ h => h) (by kernel_rfl) ?_
  simp only [List.set_cons_succ, List.set_cons_zero]
  refine take_no (i := 6) (st_ups _ _) rfl rfl (by kernel_rfl) (fun _ _ _ h => h) (by kernel_rfl) ?_
  simp only [List.set_cons_succ, List.set_cons_zero]
  refine take_no (i := 7) (st_ups _ _) rfl rfl (by kernel_rfl) (fun _ _ _ h => h) (by kernel_rfl) ?_
  simp only [List.set_cons_succ, List.set_cons_zero]
  refine take_val (i := 8) (v := .bool false) (st_ups _ _) rfl rfl (by kernel_rfl) (fun _ _ _ h => h) (by rfl) (by intro x hx; go_simp; (first | done | exact rfl)) ?_
  simp only [List.set_cons_succ, List.set_cons_zero]
  refine take_done (by kernel_rfl) ?_ _
  intro W2 hx
  replace HS := hid hx
  clear hx
  -- region 5
  go_upto_region 5 with fail
  refine up_begin (St w [⟨w.heap.size, [some (.int .u64 (tn (x0.lo))), some (.int .u64 (tn (x0.hi)))], 24⟩, ⟨w.heap.size + 1, [some (.int .i64 (ti (x1.lo))), some (.int .i64 (ti (x1.hi)))], 38⟩, ⟨w.heap.size + 2, [some (.int .u64 (tn (x2.lo))), some (.int .u64 (tn (x2.hi)))], 51⟩]) 21 rfl (by kernel_rfl) (HS.out.drew) ?_
  refine take_val (i := 0) (v := .agg #[.int .u64 (tn (x2.lo)), .int .u64 (tn (x2.hi))]) (st_ups _ _) rfl rfl (by kernel_rfl) (fun _ _ _ h => h) (by rfl) (by intro x hx; have f0 := hx.load 2 0 rfl rfl; have f1 := hx.load 2 1 rfl rfl; go_simp; (first | done | exact rfl)) ?_
  simp only [List.set_cons_succ, List.set_cons_zero]
  refine take_call (i := 1) (f := 74) (args := #[.agg #[.int .u64 (tn (x2.lo)), .int .u64 (tn (x2.hi))]]) (v := .bool true) (st_ups _ _) rfl rfl (by kernel_rfl) (fun _ _ _ h => h) (by rfl) (fun x hx => by kernel_rfl) (by intro x hx; exact calls_is (ref_Tmay_any x2 _) (congrArg Value.bool (Hhc.out))) ?_
  simp only [List.set_cons_succ, List.set_cons_zero]
  refine take_val (i := 2) (v := .bool false) (st_ups _ _) rfl rfl (by kernel_rfl) (fun _ _ _ h => h) (by rfl) (by intro x hx; go_simp; (first | done | exact rfl)) ?_
  simp only [List.set_cons_succ, List.set_cons_zero]
  refine take_val (i := 3) (v := .bool false) (st_ups _ _) rfl rfl (by kernel_rfl) (fun _ _ _ h => h) (by rfl) (by intro x hx; go_simp; (first | done | exact rfl)) ?_
  simp only [List.set_cons_succ, List.set_cons_zero]
  refine take_val (i := 4) (v := .agg #[.int .u64 (tn (x2.lo)), .int .u64 (tn (x2.hi))]) (st_ups _ _) rfl rfl (by kernel_rfl) (fun _ _ _ h => h) (by rfl) (by intro x hx; have f0 := hx.load 2 0 rfl rfl; have f1 := hx.load 2 1 rfl rfl; go_simp; (first | done | exact rfl)) ?_
  simp only [List.set_cons_succ, List.set_cons_zero]
  refine take_call (i := 5) (f := 75) (args := #[.agg #[.int .u64 (tn (x2.lo)), .int .u64 (tn (x2.hi))]]) (v := .agg #[.int .u64 (tn (x2.lo)), .int .u64 (tn (x2.lo ||| x2.hi))]) (st_ups _ _) rfl rfl (by kernel_rfl) (fun _ _ _ h => h) (by rfl) (fun x hx => by kernel_rfl) (by intro x hx; exact span_Bounds_any x2 _) ?_
  simp only [List.set_cons_succ, List.set_cons_zero]
  refine take_val (i := 6) (v := .agg #[.int .u64 (tn (x2.lo)), .int .u64 (tn (x2.hi))]) (st_ups _ _) rfl rfl (by kernel_rfl) (fun _ _ _ h => h) (by rfl) (by intro x hx; have f0 := hx.load 2 0 rfl rfl; have f1 := hx.load 2 1 rfl rfl; go_simp; (first | done | exact rfl)) ?_
  simp only [List.set_cons_succ, List.set_cons_zero]
  refine take_call (i := 7) (f := 76) (args := #[.agg #[.int .u64 (tn (x2.lo)), .int .u64 (tn (x2.hi))]]) (v := .agg #[.int .u64 (tn (x2.lo)), .int .u64 (tn (x2.lo ||| x2.hi))]) (st_ups _ _) rfl rfl (by kernel_rfl) (fun _ _ _ h => h) (by rfl) (fun x hx => by kernel_rfl) (by intro x hx; exact calls_is (ref_Bounds_any x2 _) (congrArg (fun rr : P => (.agg #[.int .u64 (tn (rr.lo)), .int .u64 (tn (rr.hi))] : Value)) (bounds_is x2 Hhc.out))) ?_
  simp only [List.set_cons_succ, List.set_cons_zero]
  refine take_val (i := 8) (v := .bool true) (st_ups _ _) rfl rfl (by kernel_rfl) (fun _ _ _ h => h) (by rfl) (by intro x hx; go_simp; (first | done | exact rfl)) ?_
  simp only [List.set_cons_succ, List.set_cons_zero]
  refine take_val (i := 9) (v := .bool true) (st_ups _ _) rfl rfl (by kernel_rfl) (fun _ _ _ h => h) (by rfl) (by intro x hx; go_simp; (first | done | exact rfl)) ?_
  simp only [List.set_cons_succ, List.set_cons_zero]
  refine take_val (i := 10) (v := .agg #[.int .u64 (tn (x2.lo)), .int .u64 (tn (x2.hi))]) (st_ups _ _) rfl rfl (by kernel_rfl) (fun _ _ _ h => h) (by rfl) (by intro x hx; have f0 := hx.load 2 0 rfl rfl; have f1 := hx.load 2 1 rfl rfl; go_simp; (first | done | exact rfl)) ?_
  simp only [List.set_cons_succ, List.set_cons_zero]
  refine take_call (i := 11) (f := 77) (args := #[.agg #[.int .u64 (tn (x2.lo)), .int .u64 (tn (x2.hi))]]) (v := .agg #[.int .i64 (ti ((span_Sbounds x2).lo)), .int .i64 (ti ((span_Sbounds x2).hi))]) (st_ups _ _) rfl rfl (by kernel_rfl) (fun _ _ _ h => h) (by rfl) (fun x hx => by kernel_rfl) (by intro x hx; exact span_Sbounds_any x2 _) ?_
  simp only [List.set_cons_succ, List.set_cons_zero]
  refine take_val (i := 12) (v := .agg #[.int .u64 (tn (x2.lo)), .int .u64 (tn (x2.hi))]) (st_ups _ _) rfl rfl (by kernel_rfl) (fun _ _ _ h => h) (by rfl) (by intro x hx; have f0 := hx.load 2 0 rfl rfl; have f1 := hx.load 2 1 rfl rfl; go_simp; (first | done | exact rfl)) ?_
  simp only [List.set_cons_succ, List.set_cons_zero]
  refine take_call (i := 13) (f := 78) (args := #[.agg #[.int .u64 (tn (x2.lo)), .int .u64 (tn (x2.hi))]]) (v := .agg #[.int .i64 (ti ((span_Sbounds x2).lo)), .int .i64 (ti ((span_Sbounds x2).hi))]) (st_ups _ _) rfl rfl (by kernel_rfl) (fun _ _ _ h => h) (by rfl) (fun x hx => by kernel_rfl) (by intro x hx; exact calls_is (ref_Sbounds_any x2 _) (congrArg (fun rr : P => (.agg #[.int .i64 (ti (rr.lo)), .int .i64 (ti (rr.hi))] : Value)) (sbounds_is x2 Hhc.out))) ?_
  simp only [List.set_cons_succ, List.set_cons_zero]
  refine take_val (i := 14) (v := .bool true) (st_ups _ _) rfl rfl (by kernel_rfl) (fun _ _ _ h => h) (by rfl) (by intro x hx; go_simp; (first | done | exact rfl)) ?_
  simp only [List.set_cons_succ, List.set_cons_zero]
  refine take_val (i := 15) (v := .bool true) (st_ups _ _) rfl rfl (by kernel_rfl) (fun _ _ _ h => h) (by rfl) (by intro x hx; go_simp; (first | done | exact rfl)) ?_
  simp only [List.set_cons_succ, List.set_cons_zero]
  refine take_val (i := 16) (v := .bool true) (st_ups _ _) rfl rfl (by kernel_rfl) (fun _ _ _ h => h) (by rfl) (by intro x hx; go_simp; (first | done | exact rfl)) ?_
  simp only [List.set_cons_succ, List.set_cons_zero]
  refine take_val (i := 17) (v := .bool true) (st_ups _ _) rfl rfl (by kernel_rfl) (fun _ _ _ h => h) (by rfl) (by intro x hx; go_simp; (first | done | exact rfl)) ?_
  simp only [List.set_cons_succ, List.set_cons_zero]
  refine take_call (i := 18) (f := 12) (args := #[]) (v := .bool true) (st_ups _ _) rfl rfl (by kernel_rfl) (fun _ _ _ h => h) (by rfl) (fun x hx => by kernel_rfl) (by intro x hx; exact law_known_any _) ?_
  simp only [List.set_cons_succ, List.set_cons_zero]
  refine take_val (i := 19) (v := .bool true) (st_ups _ _) rfl rfl (by kernel_rfl) (fun _ _ _ h => h) (by rfl) (by intro x hx; go_simp; (first | done | exact rfl)) ?_
  simp only [List.set_cons_succ, List.set_cons_zero]
  refine take_val (i := 20) (v := .bool true) (st_ups _ _) rfl rfl (by kernel_rfl) (fun _ _ _ h => h) (by rfl) (by intro x hx; go_simp; (first | done | exact rfl)) ?_
  simp only [List.set_cons_succ, List.set_cons_zero]
  refine take_done (by kernel_rfl) ?_ _
  intro W3 hx
  replace HS := hid hx
  clear hx
  go_wp2
  exact bodyPost_ret (v := .bool true) (by simp [results, Try.results5, go_sem]) rfl ⟨rfl, HS.out.below⟩
set_option maxRecDepth 100000 in
set_option maxHeartbeats 2000000 in
theorem turns_5 (x0 : P) (x1 : P) (x2 : P) (ha : leU x0.lo x0.hi = true) (hb : leI x1.lo x1.hi = false) (hc : (x2.lo &&& x2.hi == 0#64) = true) (w : World) :
    Calls Try.prog 5 #[.agg #[.int .u64 (tn (x0.lo)), .int .u64 (tn (x0.hi))], .agg #[.int .i64 (ti (x1.lo)), .int .i64 (ti (x1.hi))], .agg #[.int .u64 (tn (x2.lo)), .int .u64 (tn (x2.hi))]] w fun e w' => e = .returned (.bool true) ∧ Below w.heap.size w w' := by
  have Hha := hid ha
  clear ha
  have Hhb := hid hb
  clear hb
  have Hhc := hid hc
  clear hc
  go_enter Try.func5, Try.ntmps5
  have HS := hid ((((st_nil w).alloc (k := w.heap.size) rfl [.int .u64 (tn (x0.lo)), .int .u64 (tn (x0.hi))] 24).alloc (k := w.heap.size + 1) (by simp) [.int .i64 (ti (x1.lo)), .int .i64 (ti (x1.hi))] 38).alloc (k := w.heap.size + 2) (by simp) [.int .u64 (tn (x2.lo)), .int .u64 (tn (x2.hi))] 51)
  -- region 1
  go_upto_region 1 with fail
  refine up_begin (St w [⟨w.heap.size, [some (.int .u64 (tn (x0.lo))), some (.int .u64 (tn (x0.hi)))], 24⟩, ⟨w.heap.size + 1, [some (.int .i64 (ti (x1.lo))), some (.int .i64 (ti (x1.hi)))], 38⟩, ⟨w.heap.size + 2, [some (.int .u64 (tn (x2.lo))), some (.int .u64 (tn (x2.hi)))], 51⟩]) 16 rfl (by kernel_rfl) (HS.out.drew) ?_
  refine take_val (i := 0) (v := .agg #[.int .u64 (tn (x0.lo)), .int .u64 (tn (x0.hi))]) (st_ups _ _) rfl rfl (by kernel_rfl) (fun _ _ _ h => h) (by rfl) (by intro x hx; have f0 := hx.load 0 0 rfl rfl; have f1 := hx.load 0 1 rfl rfl; go_simp; (first | done | exact rfl)) ?_
  simp only [List.set_cons_succ, List.set_cons_zero]
  refine take_call (i := 1) (f := 11) (args := #[.agg #[.int .u64 (tn (x0.lo)), .int .u64 (tn (x0.hi))]]) (v := .bool true) (st_ups _ _) rfl rfl (by kernel_rfl) (fun _ _ _ h => h) (by rfl) (fun x hx => by kernel_rfl) (by intro x hx; exact calls_is (ref_May_any x0 _) (congrArg Value.bool (Hha.out))) ?_
  simp only [List.set_cons_succ, List.set_cons_zero]
  refine take_val (i := 2) (v := .bool true) (st_ups _ _) rfl rfl (by kernel_rfl) (fun _ _ _ h => h) (by rfl) (by intro x hx; go_simp; (first | done | exact rfl)) ?_
  simp only [List.set_cons_succ, List.set_cons_zero]
  refine take_val (i := 3) (v := .agg #[.int .u64 (tn (x0.lo)), .int .u64 (tn (x0.hi))]) (st_ups _ _) rfl rfl (by kernel_rfl) (fun _ _ _ h => h) (by rfl) (by intro x hx; have f0 := hx.load 0 0 rfl rfl; have f1 := hx.load 0 1 rfl rfl; go_simp; (first | done | exact rfl)) ?_
  simp only [List.set_cons_succ, List.set_cons_zero]
  refine take_call (i := 4) (f := 68) (args := #[.agg #[.int .u64 (tn (x0.lo)), .int .u64 (tn (x0.hi))]]) (v := .agg #[.int .i64 (ti ((span_ToSigned x0).lo)), .int .i64 (ti ((span_ToSigned x0).hi))]) (st_ups _ _) rfl rfl (by kernel_rfl) (fun _ _ _ h => h) (by rfl) (fun x hx => by kernel_rfl) (by intro x hx; exact span_ToSigned_any x0 _) ?_
  simp only [List.set_cons_succ, List.set_cons_zero]
  refine take_val (i := 5) (v := .agg #[.int .u64 (tn (x0.lo)), .int .u64 (tn (x0.hi))]) (st_ups _ _) rfl rfl (by kernel_rfl) (fun _ _ _ h => h) (by rfl) (by intro x hx; have f0 := hx.load 0 0 rfl rfl; have f1 := hx.load 0 1 rfl rfl; go_simp; (first | done | exact rfl)) ?_
  simp only [List.set_cons_succ, List.set_cons_zero]
  refine take_call (i := 6) (f := 69) (args := #[.agg #[.int .u64 (tn (x0.lo)), .int .u64 (tn (x0.hi))]]) (v := .agg #[.int .i64 (ti ((span_ToSigned x0).lo)), .int .i64 (ti ((span_ToSigned x0).hi))]) (st_ups _ _) rfl rfl (by kernel_rfl) (fun _ _ _ h => h) (by rfl) (fun x hx => by kernel_rfl) (by intro x hx; exact calls_is (ref_ToSigned_any x0 _) (congrArg (fun rr : P => (.agg #[.int .i64 (ti (rr.lo)), .int .i64 (ti (rr.hi))] : Value)) (toSigned_is x0))) ?_
  simp only [List.set_cons_succ, List.set_cons_zero]
  refine take_val (i := 7) (v := .bool false) (st_ups _ _) rfl rfl (by kernel_rfl) (fun _ _ _ h => h) (by rfl) (by intro x hx; go_simp; (first | done | exact rfl)) ?_
  simp only [List.set_cons_succ, List.set_cons_zero]
  refine take_val (i := 8) (v := .bool false) (st_ups _ _) rfl rfl (by kernel_rfl) (fun _ _ _ h => h) (by rfl) (by intro x hx; go_simp; (first | done | exact rfl)) ?_
  simp only [List.set_cons_succ, List.set_cons_zero]
  refine take_val (i := 9) (v := .agg #[.int .u64 (tn (x0.lo)), .int .u64 (tn (x0.hi))]) (st_ups _ _) rfl rfl (by kernel_rfl) (fun _ _ _ h => h) (by rfl) (by intro x hx; have f0 := hx.load 0 0 rfl rfl; have f1 := hx.load 0 1 rfl rfl; go_simp; (first | done | exact rfl)) ?_
  simp only [List.set_cons_succ, List.set_cons_zero]
  refine take_call (i := 10) (f := 70) (args := #[.agg #[.int .u64 (tn (x0.lo)), .int .u64 (tn (x0.hi))]]) (v := .agg #[.int .u64 (tn (x0.lo &&& ~~~(onesV (x0.lo ^^^ x0.hi)))), .int .u64 (tn (onesV (x0.lo ^^^ x0.hi)))]) (st_ups _ _) rfl rfl (by kernel_rfl) (fun _ _ _ h => h) (by rfl) (fun x hx => by kernel_rfl) (by intro x hx; exact span_Bits_any x0 _) ?_
  simp only [List.set_cons_succ, List.set_cons_zero]
  refine take_val (i := 11) (v := .agg #[.int .u64 (tn (x0.lo)), .int .u64 (tn (x0.hi))]) (st_ups _ _) rfl rfl (by kernel_rfl) (fun _ _ _ h => h) (by rfl) (by intro x hx; have f0 := hx.load 0 0 rfl rfl; have f1 := hx.load 0 1 rfl rfl; go_simp; (first | done | exact rfl)) ?_
  simp only [List.set_cons_succ, List.set_cons_zero]
  refine take_call (i := 12) (f := 71) (args := #[.agg #[.int .u64 (tn (x0.lo)), .int .u64 (tn (x0.hi))]]) (v := .agg #[.int .u64 (tn (x0.lo &&& ~~~(onesV (x0.lo ^^^ x0.hi)))), .int .u64 (tn (onesV (x0.lo ^^^ x0.hi)))]) (st_ups _ _) rfl rfl (by kernel_rfl) (fun _ _ _ h => h) (by rfl) (fun x hx => by kernel_rfl) (by intro x hx; exact calls_is (ref_Bits_any x0 _) (congrArg (fun rr : P => (.agg #[.int .u64 (tn (rr.lo)), .int .u64 (tn (rr.hi))] : Value)) (bits_is x0))) ?_
  simp only [List.set_cons_succ, List.set_cons_zero]
  refine take_val (i := 13) (v := .bool false) (st_ups _ _) rfl rfl (by kernel_rfl) (fun _ _ _ h => h) (by rfl) (by intro x hx; go_simp; (first | done | exact rfl)) ?_
  simp only [List.set_cons_succ, List.set_cons_zero]
  refine take_val (i := 14) (v := .bool false) (st_ups _ _) rfl rfl (by kernel_rfl) (fun _ _ _ h => h) (by rfl) (by intro x hx; go_simp; (first | done | exact rfl)) ?_
  simp only [List.set_cons_succ, List.set_cons_zero]
  refine take_val (i := 15) (v := .bool false) (st_ups _ _) rfl rfl (by kernel_rfl) (fun _ _ _ h => h) (by rfl) (by intro x hx; go_simp; (first | done | exact rfl)) ?_
  simp only [List.set_cons_succ, List.set_cons_zero]
  refine take_done (by kernel_rfl) ?_ _
  intro W1 hx
  replace HS := hid hx
  clear hx
  -- region 3
  go_upto_region 3 with fail
  refine up_begin (St w [⟨w.heap.size, [some (.int .u64 (tn (x0.lo))), some (.int .u64 (tn (x0.hi)))], 24⟩, ⟨w.heap.size + 1, [some (.int .i64 (ti (x1.lo))), some (.int .i64 (ti (x1.hi)))], 38⟩, ⟨w.heap.size + 2, [some (.int .u64 (tn (x2.lo))), some (.int .u64 (tn (x2.hi)))], 51⟩]) 9 rfl (by kernel_rfl) (HS.out.drew) ?_
  refine take_val (i := 0) (v := .agg #[.int .i64 (ti (x1.lo)), .int .i64 (ti (x1.hi))]) (st_ups _ _) rfl rfl (by kernel_rfl) (fun _ _ _ h => h) (by rfl) (by intro x hx; have f0 := hx.load 1 0 rfl rfl; have f1 := hx.load 1 1 rfl rfl; go_simp; (first | done | exact rfl)) ?_
  simp only [List.set_cons_succ, List.set_cons_zero]
  refine take_call (i := 1) (f := 47) (args := #[.agg #[.int .i64 (ti (x1.lo)), .int .i64 (ti (x1.hi))]]) (v := .bool false) (st_ups _ _) rfl rfl (by kernel_rfl) (fun _ _ _ h => h) (by rfl) (fun x hx => by kernel_rfl) (by intro x hx; exact calls_is (ref_Smay_any x1 _) (congrArg Value.bool (Hhb.out))) ?_
  simp only [List.set_cons_succ, List.set_cons_zero]
  refine take_val (i := 2) (v := .bool false) (st_ups _ _) rfl rfl (by kernel_rfl) (fun _ _ _ h => h) (by rfl) (by intro x hx; go_simp; (first | done | exact rfl)) ?_
  simp only [List.set_cons_succ, List.set_cons_zero]
  refine take_no (i := 3) (st_ups _ _) rfl rfl (by kernel_rfl) (fun _ _ _ h => h) (by kernel_rfl) ?_
  simp only [List.set_cons_succ, List.set_cons_zero]
  refine take_no (i := 4) (st_ups _ _) rfl rfl (by kernel_rfl) (fun _ _ _ h => h) (by kernel_rfl) ?_
  simp only [List.set_cons_succ, List.set_cons_zero]
  refine take_no (i := 5) (st_ups _ _) rfl rfl (by kernel_rfl) (fun _ _ _ h => h) (by kernel_rfl) ?_
  simp only [List.set_cons_succ, List.set_cons_zero]
  refine take_no (i := 6) (st_ups _ _) rfl rfl (by kernel_rfl) (fun _ _ _ h => h) (by kernel_rfl) ?_
  simp only [List.set_cons_succ, List.set_cons_zero]
  refine take_no (i := 7) (st_ups _ _) rfl rfl (by kernel_rfl) (fun _ _ _ h => h) (by kernel_rfl) ?_
  simp only [List.set_cons_succ, List.set_cons_zero]
  refine take_val (i := 8) (v := .bool false) (st_ups _ _) rfl rfl (by kernel_rfl) (fun _ _ _ h => h) (by rfl) (by intro x hx; go_simp; (first | done | exact rfl)) ?_
  simp only [List.set_cons_succ, List.set_cons_zero]
  refine take_done (by kernel_rfl) ?_ _
  intro W2 hx
  replace HS := hid hx
  clear hx
  -- region 5
  go_upto_region 5 with fail
  refine up_begin (St w [⟨w.heap.size, [some (.int .u64 (tn (x0.lo))), some (.int .u64 (tn (x0.hi)))], 24⟩, ⟨w.heap.size + 1, [some (.int .i64 (ti (x1.lo))), some (.int .i64 (ti (x1.hi)))], 38⟩, ⟨w.heap.size + 2, [some (.int .u64 (tn (x2.lo))), some (.int .u64 (tn (x2.hi)))], 51⟩]) 21 rfl (by kernel_rfl) (HS.out.drew) ?_
  refine take_val (i := 0) (v := .agg #[.int .u64 (tn (x2.lo)), .int .u64 (tn (x2.hi))]) (st_ups _ _) rfl rfl (by kernel_rfl) (fun _ _ _ h => h) (by rfl) (by intro x hx; have f0 := hx.load 2 0 rfl rfl; have f1 := hx.load 2 1 rfl rfl; go_simp; (first | done | exact rfl)) ?_
  simp only [List.set_cons_succ, List.set_cons_zero]
  refine take_call (i := 1) (f := 74) (args := #[.agg #[.int .u64 (tn (x2.lo)), .int .u64 (tn (x2.hi))]]) (v := .bool true) (st_ups _ _) rfl rfl (by kernel_rfl) (fun _ _ _ h => h) (by rfl) (fun x hx => by kernel_rfl) (by intro x hx; exact calls_is (ref_Tmay_any x2 _) (congrArg Value.bool (Hhc.out))) ?_
  simp only [List.set_cons_succ, List.set_cons_zero]
  refine take_val (i := 2) (v := .bool false) (st_ups _ _) rfl rfl (by kernel_rfl) (fun _ _ _ h => h) (by rfl) (by intro x hx; go_simp; (first | done | exact rfl)) ?_
  simp only [List.set_cons_succ, List.set_cons_zero]
  refine take_val (i := 3) (v := .bool false) (st_ups _ _) rfl rfl (by kernel_rfl) (fun _ _ _ h => h) (by rfl) (by intro x hx; go_simp; (first | done | exact rfl)) ?_
  simp only [List.set_cons_succ, List.set_cons_zero]
  refine take_val (i := 4) (v := .agg #[.int .u64 (tn (x2.lo)), .int .u64 (tn (x2.hi))]) (st_ups _ _) rfl rfl (by kernel_rfl) (fun _ _ _ h => h) (by rfl) (by intro x hx; have f0 := hx.load 2 0 rfl rfl; have f1 := hx.load 2 1 rfl rfl; go_simp; (first | done | exact rfl)) ?_
  simp only [List.set_cons_succ, List.set_cons_zero]
  refine take_call (i := 5) (f := 75) (args := #[.agg #[.int .u64 (tn (x2.lo)), .int .u64 (tn (x2.hi))]]) (v := .agg #[.int .u64 (tn (x2.lo)), .int .u64 (tn (x2.lo ||| x2.hi))]) (st_ups _ _) rfl rfl (by kernel_rfl) (fun _ _ _ h => h) (by rfl) (fun x hx => by kernel_rfl) (by intro x hx; exact span_Bounds_any x2 _) ?_
  simp only [List.set_cons_succ, List.set_cons_zero]
  refine take_val (i := 6) (v := .agg #[.int .u64 (tn (x2.lo)), .int .u64 (tn (x2.hi))]) (st_ups _ _) rfl rfl (by kernel_rfl) (fun _ _ _ h => h) (by rfl) (by intro x hx; have f0 := hx.load 2 0 rfl rfl; have f1 := hx.load 2 1 rfl rfl; go_simp; (first | done | exact rfl)) ?_
  simp only [List.set_cons_succ, List.set_cons_zero]
  refine take_call (i := 7) (f := 76) (args := #[.agg #[.int .u64 (tn (x2.lo)), .int .u64 (tn (x2.hi))]]) (v := .agg #[.int .u64 (tn (x2.lo)), .int .u64 (tn (x2.lo ||| x2.hi))]) (st_ups _ _) rfl rfl (by kernel_rfl) (fun _ _ _ h => h) (by rfl) (fun x hx => by kernel_rfl) (by intro x hx; exact calls_is (ref_Bounds_any x2 _) (congrArg (fun rr : P => (.agg #[.int .u64 (tn (rr.lo)), .int .u64 (tn (rr.hi))] : Value)) (bounds_is x2 Hhc.out))) ?_
  simp only [List.set_cons_succ, List.set_cons_zero]
  refine take_val (i := 8) (v := .bool true) (st_ups _ _) rfl rfl (by kernel_rfl) (fun _ _ _ h => h) (by rfl) (by intro x hx; go_simp; (first | done | exact rfl)) ?_
  simp only [List.set_cons_succ, List.set_cons_zero]
  refine take_val (i := 9) (v := .bool true) (st_ups _ _) rfl rfl (by kernel_rfl) (fun _ _ _ h => h) (by rfl) (by intro x hx; go_simp; (first | done | exact rfl)) ?_
  simp only [List.set_cons_succ, List.set_cons_zero]
  refine take_val (i := 10) (v := .agg #[.int .u64 (tn (x2.lo)), .int .u64 (tn (x2.hi))]) (st_ups _ _) rfl rfl (by kernel_rfl) (fun _ _ _ h => h) (by rfl) (by intro x hx; have f0 := hx.load 2 0 rfl rfl; have f1 := hx.load 2 1 rfl rfl; go_simp; (first | done | exact rfl)) ?_
  simp only [List.set_cons_succ, List.set_cons_zero]
  refine take_call (i := 11) (f := 77) (args := #[.agg #[.int .u64 (tn (x2.lo)), .int .u64 (tn (x2.hi))]]) (v := .agg #[.int .i64 (ti ((span_Sbounds x2).lo)), .int .i64 (ti ((span_Sbounds x2).hi))]) (st_ups _ _) rfl rfl (by kernel_rfl) (fun _ _ _ h => h) (by rfl) (fun x hx => by kernel_rfl) (by intro x hx; exact span_Sbounds_any x2 _) ?_
  simp only [List.set_cons_succ, List.set_cons_zero]
  refine take_val (i := 12) (v := .agg #[.int .u64 (tn (x2.lo)), .int .u64 (tn (x2.hi))]) (st_ups _ _) rfl rfl (by kernel_rfl) (fun _ _ _ h => h) (by rfl) (by intro x hx; have f0 := hx.load 2 0 rfl rfl; have f1 := hx.load 2 1 rfl rfl; go_simp; (first | done | exact rfl)) ?_
  simp only [List.set_cons_succ, List.set_cons_zero]
  refine take_call (i := 13) (f := 78) (args := #[.agg #[.int .u64 (tn (x2.lo)), .int .u64 (tn (x2.hi))]]) (v := .agg #[.int .i64 (ti ((span_Sbounds x2).lo)), .int .i64 (ti ((span_Sbounds x2).hi))]) (st_ups _ _) rfl rfl (by kernel_rfl) (fun _ _ _ h => h) (by rfl) (fun x hx => by kernel_rfl) (by intro x hx; exact calls_is (ref_Sbounds_any x2 _) (congrArg (fun rr : P => (.agg #[.int .i64 (ti (rr.lo)), .int .i64 (ti (rr.hi))] : Value)) (sbounds_is x2 Hhc.out))) ?_
  simp only [List.set_cons_succ, List.set_cons_zero]
  refine take_val (i := 14) (v := .bool true) (st_ups _ _) rfl rfl (by kernel_rfl) (fun _ _ _ h => h) (by rfl) (by intro x hx; go_simp; (first | done | exact rfl)) ?_
  simp only [List.set_cons_succ, List.set_cons_zero]
  refine take_val (i := 15) (v := .bool true) (st_ups _ _) rfl rfl (by kernel_rfl) (fun _ _ _ h => h) (by rfl) (by intro x hx; go_simp; (first | done | exact rfl)) ?_
  simp only [List.set_cons_succ, List.set_cons_zero]
  refine take_val (i := 16) (v := .bool true) (st_ups _ _) rfl rfl (by kernel_rfl) (fun _ _ _ h => h) (by rfl) (by intro x hx; go_simp; (first | done | exact rfl)) ?_
  simp only [List.set_cons_succ, List.set_cons_zero]
  refine take_val (i := 17) (v := .bool true) (st_ups _ _) rfl rfl (by kernel_rfl) (fun _ _ _ h => h) (by rfl) (by intro x hx; go_simp; (first | done | exact rfl)) ?_
  simp only [List.set_cons_succ, List.set_cons_zero]
  refine take_call (i := 18) (f := 12) (args := #[]) (v := .bool true) (st_ups _ _) rfl rfl (by kernel_rfl) (fun _ _ _ h => h) (by rfl) (fun x hx => by kernel_rfl) (by intro x hx; exact law_known_any _) ?_
  simp only [List.set_cons_succ, List.set_cons_zero]
  refine take_val (i := 19) (v := .bool true) (st_ups _ _) rfl rfl (by kernel_rfl) (fun _ _ _ h => h) (by rfl) (by intro x hx; go_simp; (first | done | exact rfl)) ?_
  simp only [List.set_cons_succ, List.set_cons_zero]
  refine take_val (i := 20) (v := .bool true) (st_ups _ _) rfl rfl (by kernel_rfl) (fun _ _ _ h => h) (by rfl) (by intro x hx; go_simp; (first | done | exact rfl)) ?_
  simp only [List.set_cons_succ, List.set_cons_zero]
  refine take_done (by kernel_rfl) ?_ _
  intro W3 hx
  replace HS := hid hx
  clear hx
  go_wp2
  exact bodyPost_ret (v := .bool true) (by simp [results, Try.results5, go_sem]) rfl ⟨rfl, HS.out.below⟩
set_option maxRecDepth 100000 in
set_option maxHeartbeats 2000000 in
theorem turns_6 (x0 : P) (x1 : P) (x2 : P) (ha : leU x0.lo x0.hi = false) (hb : leI x1.lo x1.hi = true) (hc : (x2.lo &&& x2.hi == 0#64) = true) (w : World) :
    Calls Try.prog 5 #[.agg #[.int .u64 (tn (x0.lo)), .int .u64 (tn (x0.hi))], .agg #[.int .i64 (ti (x1.lo)), .int .i64 (ti (x1.hi))], .agg #[.int .u64 (tn (x2.lo)), .int .u64 (tn (x2.hi))]] w fun e w' => e = .returned (.bool true) ∧ Below w.heap.size w w' := by
  have Hha := hid ha
  clear ha
  have Hhb := hid hb
  clear hb
  have Hhc := hid hc
  clear hc
  go_enter Try.func5, Try.ntmps5
  have HS := hid ((((st_nil w).alloc (k := w.heap.size) rfl [.int .u64 (tn (x0.lo)), .int .u64 (tn (x0.hi))] 24).alloc (k := w.heap.size + 1) (by simp) [.int .i64 (ti (x1.lo)), .int .i64 (ti (x1.hi))] 38).alloc (k := w.heap.size + 2) (by simp) [.int .u64 (tn (x2.lo)), .int .u64 (tn (x2.hi))] 51)
  -- region 1
  go_upto_region 1 with fail
  refine up_begin (St w [⟨w.heap.size, [some (.int .u64 (tn (x0.lo))), some (.int .u64 (tn (x0.hi)))], 24⟩, ⟨w.heap.size + 1, [some (.int .i64 (ti (x1.lo))), some (.int .i64 (ti (x1.hi)))], 38⟩, ⟨w.heap.size + 2, [some (.int .u64 (tn (x2.lo))), some (.int .u64 (tn (x2.hi)))], 51⟩]) 16 rfl (by kernel_rfl) (HS.out.drew) ?_
  refine take_val (i := 0) (v := .agg #[.int .u64 (tn (x0.lo)), .int .u64 (tn (x0.hi))]) (st_ups _ _) rfl rfl (by kernel_rfl) (fun _ _ _ h => h) (by rfl) (by intro x hx; have f0 := hx.load 0 0 rfl rfl; have f1 := hx.load 0 1 rfl rfl; go_simp; (first | done | exact rfl)) ?_
  simp only [List.set_cons_succ, List.set_cons_zero]
  refine take_call (i := 1) (f := 11) (args := #[.agg #[.int .u64 (tn (x0.lo)), .int .u64 (tn (x0.hi))]]) (v := .bool false) (st_ups _ _) rfl rfl (by kernel_rfl) (fun _ _ _ h => h) (by rfl) (fun x hx => by kernel_rfl) (by intro x hx; exact calls_is (ref_May_any x0 _) (congrArg Value.bool (Hha.out))) ?_
  simp only [List.set_cons_succ, List.set_cons_zero]
  refine take_val (i := 2) (v := .bool false) (st_ups _ _) rfl rfl (by kernel_rfl) (fun _ _ _ h => h) (by rfl) (by intro x hx; go_simp; (first | done | exact rfl)) ?_
  simp only [List.set_cons_succ, List.set_cons_zero]
  refine take_no (i := 3) (st_ups _ _) rfl rfl (by kernel_rfl) (fun _ _ _ h => h) (by kernel_rfl) ?_
  simp only [List.set_cons_succ, List.set_cons_zero]
  refine take_no (i := 4) (st_ups _ _) rfl rfl (by kernel_rfl) (fun _ _ _ h => h) (by kernel_rfl) ?_
  simp only [List.set_cons_succ, List.set_cons_zero]
  refine take_no (i := 5) (st_ups _ _) rfl rfl (by kernel_rfl) (fun _ _ _ h => h) (by kernel_rfl) ?_
  simp only [List.set_cons_succ, List.set_cons_zero]
  refine take_no (i := 6) (st_ups _ _) rfl rfl (by kernel_rfl) (fun _ _ _ h => h) (by kernel_rfl) ?_
  simp only [List.set_cons_succ, List.set_cons_zero]
  refine take_no (i := 7) (st_ups _ _) rfl rfl (by kernel_rfl) (fun _ _ _ h => h) (by kernel_rfl) ?_
  simp only [List.set_cons_succ, List.set_cons_zero]
  refine take_no (i := 8) (st_ups _ _) rfl rfl (by kernel_rfl) (fun _ _ _ h => h) (by kernel_rfl) ?_
  simp only [List.set_cons_succ, List.set_cons_zero]
  refine take_no (i := 9) (st_ups _ _) rfl rfl (by kernel_rfl) (fun _ _ _ h => h) (by kernel_rfl) ?_
  simp only [List.set_cons_succ, List.set_cons_zero]
  refine take_no (i := 10) (st_ups _ _) rfl rfl (by kernel_rfl) (fun _ _ _ h => h) (by kernel_rfl) ?_
  simp only [List.set_cons_succ, List.set_cons_zero]
  refine take_no (i := 11) (st_ups _ _) rfl rfl (by kernel_rfl) (fun _ _ _ h => h) (by kernel_rfl) ?_
  simp only [List.set_cons_succ, List.set_cons_zero]
  refine take_no (i := 12) (st_ups _ _) rfl rfl (by kernel_rfl) (fun _ _ _ h => h) (by kernel_rfl) ?_
  simp only [List.set_cons_succ, List.set_cons_zero]
  refine take_no (i := 13) (st_ups _ _) rfl rfl (by kernel_rfl) (fun _ _ _ h => h) (by kernel_rfl) ?_
  simp only [List.set_cons_succ, List.set_cons_zero]
  refine take_no (i := 14) (st_ups _ _) rfl rfl (by kernel_rfl) (fun _ _ _ h => h) (by kernel_rfl) ?_
  simp only [List.set_cons_succ, List.set_cons_zero]
  refine take_val (i := 15) (v := .bool false) (st_ups _ _) rfl rfl (by kernel_rfl) (fun _ _ _ h => h) (by rfl) (by intro x hx; go_simp; (first | done | exact rfl)) ?_
  simp only [List.set_cons_succ, List.set_cons_zero]
  refine take_done (by kernel_rfl) ?_ _
  intro W1 hx
  replace HS := hid hx
  clear hx
  -- region 3
  go_upto_region 3 with fail
  refine up_begin (St w [⟨w.heap.size, [some (.int .u64 (tn (x0.lo))), some (.int .u64 (tn (x0.hi)))], 24⟩, ⟨w.heap.size + 1, [some (.int .i64 (ti (x1.lo))), some (.int .i64 (ti (x1.hi)))], 38⟩, ⟨w.heap.size + 2, [some (.int .u64 (tn (x2.lo))), some (.int .u64 (tn (x2.hi)))], 51⟩]) 9 rfl (by kernel_rfl) (HS.out.drew) ?_
  refine take_val (i := 0) (v := .agg #[.int .i64 (ti (x1.lo)), .int .i64 (ti (x1.hi))]) (st_ups _ _) rfl rfl (by kernel_rfl) (fun _ _ _ h => h) (by rfl) (by intro x hx; have f0 := hx.load 1 0 rfl rfl; have f1 := hx.load 1 1 rfl rfl; go_simp; (first | done | exact rfl)) ?_
  simp only [List.set_cons_succ, List.set_cons_zero]
  refine take_call (i := 1) (f := 47) (args := #[.agg #[.int .i64 (ti (x1.lo)), .int .i64 (ti (x1.hi))]]) (v := .bool true) (st_ups _ _) rfl rfl (by kernel_rfl) (fun _ _ _ h => h) (by rfl) (fun x hx => by kernel_rfl) (by intro x hx; exact calls_is (ref_Smay_any x1 _) (congrArg Value.bool (Hhb.out))) ?_
  simp only [List.set_cons_succ, List.set_cons_zero]
  refine take_val (i := 2) (v := .bool true) (st_ups _ _) rfl rfl (by kernel_rfl) (fun _ _ _ h => h) (by rfl) (by intro x hx; go_simp; (first | done | exact rfl)) ?_
  simp only [List.set_cons_succ, List.set_cons_zero]
  refine take_val (i := 3) (v := .agg #[.int .i64 (ti (x1.lo)), .int .i64 (ti (x1.hi))]) (st_ups _ _) rfl rfl (by kernel_rfl) (fun _ _ _ h => h) (by rfl) (by intro x hx; have f0 := hx.load 1 0 rfl rfl; have f1 := hx.load 1 1 rfl rfl; go_simp; (first | done | exact rfl)) ?_
  simp only [List.set_cons_succ, List.set_cons_zero]
  refine take_call (i := 4) (f := 72) (args := #[.agg #[.int .i64 (ti (x1.lo)), .int .i64 (ti (x1.hi))]]) (v := .agg #[.int .u64 (tn ((span_ToSpan x1).lo)), .int .u64 (tn ((span_ToSpan x1).hi))]) (st_ups _ _) rfl rfl (by kernel_rfl) (fun _ _ _ h => h) (by rfl) (fun x hx => by kernel_rfl) (by intro x hx; exact span_ToSpan_any x1 _) ?_
  simp only [List.set_cons_succ, List.set_cons_zero]
  refine take_val (i := 5) (v := .agg #[.int .i64 (ti (x1.lo)), .int .i64 (ti (x1.hi))]) (st_ups _ _) rfl rfl (by kernel_rfl) (fun _ _ _ h => h) (by rfl) (by intro x hx; have f0 := hx.load 1 0 rfl rfl; have f1 := hx.load 1 1 rfl rfl; go_simp; (first | done | exact rfl)) ?_
  simp only [List.set_cons_succ, List.set_cons_zero]
  refine take_call (i := 6) (f := 73) (args := #[.agg #[.int .i64 (ti (x1.lo)), .int .i64 (ti (x1.hi))]]) (v := .agg #[.int .u64 (tn ((span_ToSpan x1).lo)), .int .u64 (tn ((span_ToSpan x1).hi))]) (st_ups _ _) rfl rfl (by kernel_rfl) (fun _ _ _ h => h) (by rfl) (fun x hx => by kernel_rfl) (by intro x hx; exact calls_is (ref_ToSpan_any x1 _) (congrArg (fun rr : P => (.agg #[.int .u64 (tn (rr.lo)), .int .u64 (tn (rr.hi))] : Value)) (toSpan_is x1))) ?_
  simp only [List.set_cons_succ, List.set_cons_zero]
  refine take_val (i := 7) (v := .bool false) (st_ups _ _) rfl rfl (by kernel_rfl) (fun _ _ _ h => h) (by rfl) (by intro x hx; go_simp; (first | done | exact rfl)) ?_
  simp only [List.set_cons_succ, List.set_cons_zero]
  refine take_val (i := 8) (v := .bool false) (st_ups _ _) rfl rfl (by kernel_rfl) (fun _ _ _ h => h) (by rfl) (by intro x hx; go_simp; (first | done | exact rfl)) ?_
  simp only [List.set_cons_succ, List.set_cons_zero]
  refine take_done (by kernel_rfl) ?_ _
  intro W2 hx
  replace HS := hid hx
  clear hx
  -- region 5
  go_upto_region 5 with fail
  refine up_begin (St w [⟨w.heap.size, [some (.int .u64 (tn (x0.lo))), some (.int .u64 (tn (x0.hi)))], 24⟩, ⟨w.heap.size + 1, [some (.int .i64 (ti (x1.lo))), some (.int .i64 (ti (x1.hi)))], 38⟩, ⟨w.heap.size + 2, [some (.int .u64 (tn (x2.lo))), some (.int .u64 (tn (x2.hi)))], 51⟩]) 21 rfl (by kernel_rfl) (HS.out.drew) ?_
  refine take_val (i := 0) (v := .agg #[.int .u64 (tn (x2.lo)), .int .u64 (tn (x2.hi))]) (st_ups _ _) rfl rfl (by kernel_rfl) (fun _ _ _ h => h) (by rfl) (by intro x hx; have f0 := hx.load 2 0 rfl rfl; have f1 := hx.load 2 1 rfl rfl; go_simp; (first | done | exact rfl)) ?_
  simp only [List.set_cons_succ, List.set_cons_zero]
  refine take_call (i := 1) (f := 74) (args := #[.agg #[.int .u64 (tn (x2.lo)), .int .u64 (tn (x2.hi))]]) (v := .bool true) (st_ups _ _) rfl rfl (by kernel_rfl) (fun _ _ _ h => h) (by rfl) (fun x hx => by kernel_rfl) (by intro x hx; exact calls_is (ref_Tmay_any x2 _) (congrArg Value.bool (Hhc.out))) ?_
  simp only [List.set_cons_succ, List.set_cons_zero]
  refine take_val (i := 2) (v := .bool false) (st_ups _ _) rfl rfl (by kernel_rfl) (fun _ _ _ h => h) (by rfl) (by intro x hx; go_simp; (first | done | exact rfl)) ?_
  simp only [List.set_cons_succ, List.set_cons_zero]
  refine take_val (i := 3) (v := .bool false) (st_ups _ _) rfl rfl (by kernel_rfl) (fun _ _ _ h => h) (by rfl) (by intro x hx; go_simp; (first | done | exact rfl)) ?_
  simp only [List.set_cons_succ, List.set_cons_zero]
  refine take_val (i := 4) (v := .agg #[.int .u64 (tn (x2.lo)), .int .u64 (tn (x2.hi))]) (st_ups _ _) rfl rfl (by kernel_rfl) (fun _ _ _ h => h) (by rfl) (by intro x hx; have f0 := hx.load 2 0 rfl rfl; have f1 := hx.load 2 1 rfl rfl; go_simp; (first | done | exact rfl)) ?_
  simp only [List.set_cons_succ, List.set_cons_zero]
  refine take_call (i := 5) (f := 75) (args := #[.agg #[.int .u64 (tn (x2.lo)), .int .u64 (tn (x2.hi))]]) (v := .agg #[.int .u64 (tn (x2.lo)), .int .u64 (tn (x2.lo ||| x2.hi))]) (st_ups _ _) rfl rfl (by kernel_rfl) (fun _ _ _ h => h) (by rfl) (fun x hx => by kernel_rfl) (by intro x hx; exact span_Bounds_any x2 _) ?_
  simp only [List.set_cons_succ, List.set_cons_zero]
  refine take_val (i := 6) (v := .agg #[.int .u64 (tn (x2.lo)), .int .u64 (tn (x2.hi))]) (st_ups _ _) rfl rfl (by kernel_rfl) (fun _ _ _ h => h) (by rfl) (by intro x hx; have f0 := hx.load 2 0 rfl rfl; have f1 := hx.load 2 1 rfl rfl; go_simp; (first | done | exact rfl)) ?_
  simp only [List.set_cons_succ, List.set_cons_zero]
  refine take_call (i := 7) (f := 76) (args := #[.agg #[.int .u64 (tn (x2.lo)), .int .u64 (tn (x2.hi))]]) (v := .agg #[.int .u64 (tn (x2.lo)), .int .u64 (tn (x2.lo ||| x2.hi))]) (st_ups _ _) rfl rfl (by kernel_rfl) (fun _ _ _ h => h) (by rfl) (fun x hx => by kernel_rfl) (by intro x hx; exact calls_is (ref_Bounds_any x2 _) (congrArg (fun rr : P => (.agg #[.int .u64 (tn (rr.lo)), .int .u64 (tn (rr.hi))] : Value)) (bounds_is x2 Hhc.out))) ?_
  simp only [List.set_cons_succ, List.set_cons_zero]
  refine take_val (i := 8) (v := .bool true) (st_ups _ _) rfl rfl (by kernel_rfl) (fun _ _ _ h => h) (by rfl) (by intro x hx; go_simp; (first | done | exact rfl)) ?_
  simp only [List.set_cons_succ, List.set_cons_zero]
  refine take_val (i := 9) (v := .bool true) (st_ups _ _) rfl rfl (by kernel_rfl) (fun _ _ _ h => h) (by rfl) (by intro x hx; go_simp; (first | done | exact rfl)) ?_
  simp only [List.set_cons_succ, List.set_cons_zero]
  refine take_val (i := 10) (v := .agg #[.int .u64 (tn (x2.lo)), .int .u64 (tn (x2.hi))]) (st_ups _ _) rfl rfl (by kernel_rfl) (fun _ _ _ h => h) (by rfl) (by intro x hx; have f0 := hx.load 2 0 rfl rfl; have f1 := hx.load 2 1 rfl rfl; go_simp; (first | done | exact rfl)) ?_
  simp only [List.set_cons_succ, List.set_cons_zero]
  refine take_call (i := 11) (f := 77) (args := #[.agg #[.int .u64 (tn (x2.lo)), .int .u64 (tn (x2.hi))]]) (v := .agg #[.int .i64 (ti ((span_Sbounds x2).lo)), .int .i64 (ti ((span_Sbounds x2).hi))]) (st_ups _ _) rfl rfl (by kernel_rfl) (fun _ _ _ h => h) (by rfl) (fun x hx => by kernel_rfl) (by intro x hx; exact span_Sbounds_any x2 _) ?_
  simp only [List.set_cons_succ, List.set_cons_zero]
  refine take_val (i := 12) (v := .agg #[.int .u64 (tn (x2.lo)), .int .u64 (tn (x2.hi))]) (st_ups _ _) rfl rfl (by kernel_rfl) (fun _ _ _ h => h) (by rfl) (by intro x hx; have f0 := hx.load 2 0 rfl rfl; have f1 := hx.load 2 1 rfl rfl; go_simp; (first | done | exact rfl)) ?_
  simp only [List.set_cons_succ, List.set_cons_zero]
  refine take_call (i := 13) (f := 78) (args := #[.agg #[.int .u64 (tn (x2.lo)), .int .u64 (tn (x2.hi))]]) (v := .agg #[.int .i64 (ti ((span_Sbounds x2).lo)), .int .i64 (ti ((span_Sbounds x2).hi))]) (st_ups _ _) rfl rfl (by kernel_rfl) (fun _ _ _ h => h) (by rfl) (fun x hx => by kernel_rfl) (by intro x hx; exact calls_is (ref_Sbounds_any x2 _) (congrArg (fun rr : P => (.agg #[.int .i64 (ti (rr.lo)), .int .i64 (ti (rr.hi))] : Value)) (sbounds_is x2 Hhc.out))) ?_
  simp only [List.set_cons_succ, List.set_cons_zero]
  refine take_val (i := 14) (v := .bool true) (st_ups _ _) rfl rfl (by kernel_rfl) (fun _ _ _ h => h) (by rfl) (by intro x hx; go_simp; (first | done | exact rfl)) ?_
  simp only [List.set_cons_succ, List.set_cons_zero]
  refine take_val (i := 15) (v := .bool true) (st_ups _ _) rfl rfl (by kernel_rfl) (fun _ _ _ h => h) (by rfl) (by intro x hx; go_simp; (first | done | exact rfl)) ?_
  simp only [List.set_cons_succ, List.set_cons_zero]
  refine take_val (i := 16) (v := .bool true) (st_ups _ _) rfl rfl (by kernel_rfl) (fun _ _ _ h => h) (by rfl) (by intro x hx; go_simp; (first | done | exact rfl)) ?_
  simp only [List.set_cons_succ, List.set_cons_zero]
  refine take_val (i := 17) (v := .bool true) (st_ups _ _) rfl rfl (by kernel_rfl) (fun _ _ _ h => h) (by rfl) (by intro x hx; go_simp; (first | done | exact rfl)) ?_
  simp only [List.set_cons_succ, List.set_cons_zero]
  refine take_call (i := 18) (f := 12) (args := #[]) (v := .bool true) (st_ups _ _) rfl rfl (by kernel_rfl) (fun _ _ _ h => h) (by rfl) (fun x hx => by kernel_rfl) (by intro x hx; exact law_known_any _) ?_
  simp only [List.set_cons_succ, List.set_cons_zero]
  refine take_val (i := 19) (v := .bool true) (st_ups _ _) rfl rfl (by kernel_rfl) (fun _ _ _ h => h) (by rfl) (by intro x hx; go_simp; (first | done | exact rfl)) ?_
  simp only [List.set_cons_succ, List.set_cons_zero]
  refine take_val (i := 20) (v := .bool true) (st_ups _ _) rfl rfl (by kernel_rfl) (fun _ _ _ h => h) (by rfl) (by intro x hx; go_simp; (first | done | exact rfl)) ?_
  simp only [List.set_cons_succ, List.set_cons_zero]
  refine take_done (by kernel_rfl) ?_ _
  intro W3 hx
  replace HS := hid hx
  clear hx
  go_wp2
  exact bodyPost_ret (v := .bool true) (by simp [results, Try.results5, go_sem]) rfl ⟨rfl, HS.out.below⟩
set_option maxRecDepth 100000 in
set_option maxHeartbeats 2000000 in
theorem turns_7 (x0 : P) (x1 : P) (x2 : P) (ha : leU x0.lo x0.hi = true) (hb : leI x1.lo x1.hi = true) (hc : (x2.lo &&& x2.hi == 0#64) = true) (w : World) :
    Calls Try.prog 5 #[.agg #[.int .u64 (tn (x0.lo)), .int .u64 (tn (x0.hi))], .agg #[.int .i64 (ti (x1.lo)), .int .i64 (ti (x1.hi))], .agg #[.int .u64 (tn (x2.lo)), .int .u64 (tn (x2.hi))]] w fun e w' => e = .returned (.bool true) ∧ Below w.heap.size w w' := by
  have Hha := hid ha
  clear ha
  have Hhb := hid hb
  clear hb
  have Hhc := hid hc
  clear hc
  go_enter Try.func5, Try.ntmps5
  have HS := hid ((((st_nil w).alloc (k := w.heap.size) rfl [.int .u64 (tn (x0.lo)), .int .u64 (tn (x0.hi))] 24).alloc (k := w.heap.size + 1) (by simp) [.int .i64 (ti (x1.lo)), .int .i64 (ti (x1.hi))] 38).alloc (k := w.heap.size + 2) (by simp) [.int .u64 (tn (x2.lo)), .int .u64 (tn (x2.hi))] 51)
  -- region 1
  go_upto_region 1 with fail
  refine up_begin (St w [⟨w.heap.size, [some (.int .u64 (tn (x0.lo))), some (.int .u64 (tn (x0.hi)))], 24⟩, ⟨w.heap.size + 1, [some (.int .i64 (ti (x1.lo))), some (.int .i64 (ti (x1.hi)))], 38⟩, ⟨w.heap.size + 2, [some (.int .u64 (tn (x2.lo))), some (.int .u64 (tn (x2.hi)))], 51⟩]) 16 rfl (by kernel_rfl) (HS.out.drew) ?_
  refine take_val (i := 0) (v := .agg #[.int .u64 (tn (x0.lo)), .int .u64 (tn (x0.hi))]) (st_ups _ _) rfl rfl (by kernel_rfl) (fun _ _ _ h => h) (by rfl) (by intro x hx; have f0 := hx.load 0 0 rfl rfl; have f1 := hx.load 0 1 rfl rfl; go_simp; (first | done | exact rfl)) ?_
  simp only [List.set_cons_succ, List.set_cons_zero]
  refine take_call (i := 1) (f := 11) (args := #[.agg #[.int .u64 (tn (x0.lo)), .int .u64 (tn (x0.hi))]]) (v := .bool true) (st_ups _ _) rfl rfl (by kernel_rfl) (fun _ _ _ h => h) (by rfl) (fun x hx => by kernel_rfl) (by intro x hx; exact calls_is (ref_May_any x0 _) (congrArg Value.bool (Hha.out))) ?_
  simp only [List.set_cons_succ, List.set_cons_zero]
  refine take_val (i := 2) (v := .bool true) (st_ups _ _) rfl rfl (by kernel_rfl) (fun _ _ _ h => h) (by rfl) (by intro x hx; go_simp; (first | done | exact rfl)) ?_
  simp only [List.set_cons_succ, List.set_cons_zero]
  refine take_val (i := 3) (v := .agg #[.int .u64 (tn (x0.lo)), .int .u64 (tn (x0.hi))]) (st_ups _ _) rfl rfl (by kernel_rfl) (fun _ _ _ h => h) (by rfl) (by intro x hx; have f0 := hx.load 0 0 rfl rfl; have f1 := hx.load 0 1 rfl rfl; go_simp; (first | done | exact rfl)) ?_
  simp only [List.set_cons_succ, List.set_cons_zero]
  refine take_call (i := 4) (f := 68) (args := #[.agg #[.int .u64 (tn (x0.lo)), .int .u64 (tn (x0.hi))]]) (v := .agg #[.int .i64 (ti ((span_ToSigned x0).lo)), .int .i64 (ti ((span_ToSigned x0).hi))]) (st_ups _ _) rfl rfl (by kernel_rfl) (fun _ _ _ h => h) (by rfl) (fun x hx => by kernel_rfl) (by intro x hx; exact span_ToSigned_any x0 _) ?_
  simp only [List.set_cons_succ, List.set_cons_zero]
  refine take_val (i := 5) (v := .agg #[.int .u64 (tn (x0.lo)), .int .u64 (tn (x0.hi))]) (st_ups _ _) rfl rfl (by kernel_rfl) (fun _ _ _ h => h) (by rfl) (by intro x hx; have f0 := hx.load 0 0 rfl rfl; have f1 := hx.load 0 1 rfl rfl; go_simp; (first | done | exact rfl)) ?_
  simp only [List.set_cons_succ, List.set_cons_zero]
  refine take_call (i := 6) (f := 69) (args := #[.agg #[.int .u64 (tn (x0.lo)), .int .u64 (tn (x0.hi))]]) (v := .agg #[.int .i64 (ti ((span_ToSigned x0).lo)), .int .i64 (ti ((span_ToSigned x0).hi))]) (st_ups _ _) rfl rfl (by kernel_rfl) (fun _ _ _ h => h) (by rfl) (fun x hx => by kernel_rfl) (by intro x hx; exact calls_is (ref_ToSigned_any x0 _) (congrArg (fun rr : P => (.agg #[.int .i64 (ti (rr.lo)), .int .i64 (ti (rr.hi))] : Value)) (toSigned_is x0))) ?_
  simp only [List.set_cons_succ, List.set_cons_zero]
  refine take_val (i := 7) (v := .bool false) (st_ups _ _) rfl rfl (by kernel_rfl) (fun _ _ _ h => h) (by rfl) (by intro x hx; go_simp; (first | done | exact rfl)) ?_
  simp only [List.set_cons_succ, List.set_cons_zero]
  refine take_val (i := 8) (v := .bool false) (st_ups _ _) rfl rfl (by kernel_rfl) (fun _ _ _ h => h) (by rfl) (by intro x hx; go_simp; (first | done | exact rfl)) ?_
  simp only [List.set_cons_succ, List.set_cons_zero]
  refine take_val (i := 9) (v := .agg #[.int .u64 (tn (x0.lo)), .int .u64 (tn (x0.hi))]) (st_ups _ _) rfl rfl (by kernel_rfl) (fun _ _ _ h => h) (by rfl) (by intro x hx; have f0 := hx.load 0 0 rfl rfl; have f1 := hx.load 0 1 rfl rfl; go_simp; (first | done | exact rfl)) ?_
  simp only [List.set_cons_succ, List.set_cons_zero]
  refine take_call (i := 10) (f := 70) (args := #[.agg #[.int .u64 (tn (x0.lo)), .int .u64 (tn (x0.hi))]]) (v := .agg #[.int .u64 (tn (x0.lo &&& ~~~(onesV (x0.lo ^^^ x0.hi)))), .int .u64 (tn (onesV (x0.lo ^^^ x0.hi)))]) (st_ups _ _) rfl rfl (by kernel_rfl) (fun _ _ _ h => h) (by rfl) (fun x hx => by kernel_rfl) (by intro x hx; exact span_Bits_any x0 _) ?_
  simp only [List.set_cons_succ, List.set_cons_zero]
  refine take_val (i := 11) (v := .agg #[.int .u64 (tn (x0.lo)), .int .u64 (tn (x0.hi))]) (st_ups _ _) rfl rfl (by kernel_rfl) (fun _ _ _ h => h) (by rfl) (by intro x hx; have f0 := hx.load 0 0 rfl rfl; have f1 := hx.load 0 1 rfl rfl; go_simp; (first | done | exact rfl)) ?_
  simp only [List.set_cons_succ, List.set_cons_zero]
  refine take_call (i := 12) (f := 71) (args := #[.agg #[.int .u64 (tn (x0.lo)), .int .u64 (tn (x0.hi))]]) (v := .agg #[.int .u64 (tn (x0.lo &&& ~~~(onesV (x0.lo ^^^ x0.hi)))), .int .u64 (tn (onesV (x0.lo ^^^ x0.hi)))]) (st_ups _ _) rfl rfl (by kernel_rfl) (fun _ _ _ h => h) (by rfl) (fun x hx => by kernel_rfl) (by intro x hx; exact calls_is (ref_Bits_any x0 _) (congrArg (fun rr : P => (.agg #[.int .u64 (tn (rr.lo)), .int .u64 (tn (rr.hi))] : Value)) (bits_is x0))) ?_
  simp only [List.set_cons_succ, List.set_cons_zero]
  refine take_val (i := 13) (v := .bool false) (st_ups _ _) rfl rfl (by kernel_rfl) (fun _ _ _ h => h) (by rfl) (by intro x hx; go_simp; (first | done | exact rfl)) ?_
  simp only [List.set_cons_succ, List.set_cons_zero]
  refine take_val (i := 14) (v := .bool false) (st_ups _ _) rfl rfl (by kernel_rfl) (fun _ _ _ h => h) (by rfl) (by intro x hx; go_simp; (first | done | exact rfl)) ?_
  simp only [List.set_cons_succ, List.set_cons_zero]
  refine take_val (i := 15) (v := .bool false) (st_ups _ _) rfl rfl (by kernel_rfl) (fun _ _ _ h => h) (by rfl) (by intro x hx; go_simp; (first | done | exact rfl)) ?_
  simp only [List.set_cons_succ, List.set_cons_zero]
  refine take_done (by kernel_rfl) ?_ _
  intro W1 hx
  replace HS := hid hx
  clear hx
  -- region 3
  go_upto_region 3 with fail
  refine up_begin (St w [⟨w.heap.size, [some (.int .u64 (tn (x0.lo))), some (.int .u64 (tn (x0.hi)))], 24⟩, ⟨w.heap.size + 1, [some (.int .i64 (ti (x1.lo))), some (.int .i64 (ti (x1.hi)))], 38⟩, ⟨w.heap.size + 2, [some (.int .u64 (tn (x2.lo))), some (.int .u64 (tn (x2.hi)))], 51⟩]) 9 rfl (by kernel_rfl) (HS.out.drew) ?_
  refine take_val (i := 0) (v := .agg #[.int .i64 (ti (x1.lo)), .int .i64 (ti (x1.hi))]) (st_ups _ _) rfl rfl (by kernel_rfl) (fun _ _ _ h => h) (by rfl) (by intro x hx; have f0 := hx.load 1 0 rfl rfl; have f1 := hx.load 1 1 rfl rfl; go_simp; (first | done | exact rfl)) ?_
  simp only [List.set_cons_succ, List.set_cons_zero]
  refine take_call (i := 1) (f := 47) (args := #[.agg #[.int .i64 (ti (x1.lo)), .int .i64 (ti (x1.hi))]]) (v := .bool true) (st_ups _ _) rfl rfl (by kernel_rfl) (fun _ _ _ h => h) (by rfl) (fun x hx => by kernel_rfl) (by intro x hx; exact calls_is (ref_Smay_any x1 _) (congrArg Value.bool (Hhb.out))) ?_
  simp only [List.set_cons_succ, List.set_cons_zero]
  refine take_val (i := 2) (v := .bool true) (st_ups _ _) rfl rfl (by kernel_rfl) (fun _ _ _ h => h) (by rfl) (by intro x hx; go_simp; (first | done | exact rfl)) ?_
  simp only [List.set_cons_succ, List.set_cons_zero]
  refine take_val (i := 3) (v := .agg #[.int .i64 (ti (x1.lo)), .int .i64 (ti (x1.hi))]) (st_ups _ _) rfl rfl (by kernel_rfl) (fun _ _ _ h => h) (by rfl) (by intro x hx; have f0 := hx.load 1 0 rfl rfl; have f1 := hx.load 1 1 rfl rfl; go_simp; (first | done | exact rfl)) ?_
  simp only [List.set_cons_succ, List.set_cons_zero]
  refine take_call (i := 4) (f := 72) (args := #[.agg #[.int .i64 (ti (x1.lo)), .int .i64 (ti (x1.hi))]]) (v := .agg #[.int .u64 (tn ((span_ToSpan x1).lo)), .int .u64 (tn ((span_ToSpan x1).hi))]) (st_ups _ _) rfl rfl (by kernel_rfl) (fun _ _ _ h => h) (by rfl) (fun x hx => by kernel_rfl) (by intro x hx; exact span_ToSpan_any x1 _) ?_
  simp only [List.set_cons_succ, List.set_cons_zero]
  refine take_val (i := 5) (v := .agg #[.int .i64 (ti (x1.lo)), .int .i64 (ti (x1.hi))]) (st_ups _ _) rfl rfl (by kernel_rfl) (fun _ _ _ h => h) (by rfl) (by intro x hx; have f0 := hx.load 1 0 rfl rfl; have f1 := hx.load 1 1 rfl rfl; go_simp; (first | done | exact rfl)) ?_
  simp only [List.set_cons_succ, List.set_cons_zero]
  refine take_call (i := 6) (f := 73) (args := #[.agg #[.int .i64 (ti (x1.lo)), .int .i64 (ti (x1.hi))]]) (v := .agg #[.int .u64 (tn ((span_ToSpan x1).lo)), .int .u64 (tn ((span_ToSpan x1).hi))]) (st_ups _ _) rfl rfl (by kernel_rfl) (fun _ _ _ h => h) (by rfl) (fun x hx => by kernel_rfl) (by intro x hx; exact calls_is (ref_ToSpan_any x1 _) (congrArg (fun rr : P => (.agg #[.int .u64 (tn (rr.lo)), .int .u64 (tn (rr.hi))] : Value)) (toSpan_is x1))) ?_
  simp only [List.set_cons_succ, List.set_cons_zero]
  refine take_val (i := 7) (v := .bool false) (st_ups _ _) rfl rfl (by kernel_rfl) (fun _ _ _ h => h) (by rfl) (by intro x hx; go_simp; (first | done | exact rfl)) ?_
  simp only [List.set_cons_succ, List.set_cons_zero]
  refine take_val (i := 8) (v := .bool false) (st_ups _ _) rfl rfl (by kernel_rfl) (fun _ _ _ h => h) (by rfl) (by intro x hx; go_simp; (first | done | exact rfl)) ?_
  simp only [List.set_cons_succ, List.set_cons_zero]
  refine take_done (by kernel_rfl) ?_ _
  intro W2 hx
  replace HS := hid hx
  clear hx
  -- region 5
  go_upto_region 5 with fail
  refine up_begin (St w [⟨w.heap.size, [some (.int .u64 (tn (x0.lo))), some (.int .u64 (tn (x0.hi)))], 24⟩, ⟨w.heap.size + 1, [some (.int .i64 (ti (x1.lo))), some (.int .i64 (ti (x1.hi)))], 38⟩, ⟨w.heap.size + 2, [some (.int .u64 (tn (x2.lo))), some (.int .u64 (tn (x2.hi)))], 51⟩]) 21 rfl (by kernel_rfl) (HS.out.drew) ?_
  refine take_val (i := 0) (v := .agg #[.int .u64 (tn (x2.lo)), .int .u64 (tn (x2.hi))]) (st_ups _ _) rfl rfl (by kernel_rfl) (fun _ _ _ h => h) (by rfl) (by intro x hx; have f0 := hx.load 2 0 rfl rfl; have f1 := hx.load 2 1 rfl rfl; go_simp; (first | done | exact rfl)) ?_
  simp only [List.set_cons_succ, List.set_cons_zero]
  refine take_call (i := 1) (f := 74) (args := #[.agg #[.int .u64 (tn (x2.lo)), .int .u64 (tn (x2.hi))]]) (v := .bool true) (st_ups _ _) rfl rfl (by kernel_rfl) (fun _ _ _ h => h) (by rfl) (fun x hx => by kernel_rfl) (by intro x hx; exact calls_is (ref_Tmay_any x2 _) (congrArg Value.bool (Hhc.out))) ?_
  simp only [List.set_cons_succ, List.set_cons_zero]
  refine take_val (i := 2) (v := .bool false) (st_ups _ _) rfl rfl (by kernel_rfl) (fun _ _ _ h => h) (by rfl) (by intro x hx; go_simp; (first | done | exact rfl)) ?_
  simp only [List.set_cons_succ, List.set_cons_zero]
  refine take_val (i := 3) (v := .bool false) (st_ups _ _) rfl rfl (by kernel_rfl) (fun _ _ _ h => h) (by rfl) (by intro x hx; go_simp; (first | done | exact rfl)) ?_
  simp only [List.set_cons_succ, List.set_cons_zero]
  refine take_val (i := 4) (v := .agg #[.int .u64 (tn (x2.lo)), .int .u64 (tn (x2.hi))]) (st_ups _ _) rfl rfl (by kernel_rfl) (fun _ _ _ h => h) (by rfl) (by intro x hx; have f0 := hx.load 2 0 rfl rfl; have f1 := hx.load 2 1 rfl rfl; go_simp; (first | done | exact rfl)) ?_
  simp only [List.set_cons_succ, List.set_cons_zero]
  refine take_call (i := 5) (f := 75) (args := #[.agg #[.int .u64 (tn (x2.lo)), .int .u64 (tn (x2.hi))]]) (v := .agg #[.int .u64 (tn (x2.lo)), .int .u64 (tn (x2.lo ||| x2.hi))]) (st_ups _ _) rfl rfl (by kernel_rfl) (fun _ _ _ h => h) (by rfl) (fun x hx => by kernel_rfl) (by intro x hx; exact span_Bounds_any x2 _) ?_
  simp only [List.set_cons_succ, List.set_cons_zero]
  refine take_val (i := 6) (v := .agg #[.int .u64 (tn (x2.lo)), .int .u64 (tn (x2.hi))]) (st_ups _ _) rfl rfl (by kernel_rfl) (fun _ _ _ h => h) (by rfl) (by intro x hx; have f0 := hx.load 2 0 rfl rfl; have f1 := hx.load 2 1 rfl rfl; go_simp; (first | done | exact rfl)) ?_
  simp only [List.set_cons_succ, List.set_cons_zero]
  refine take_call (i := 7) (f := 76) (args := #[.agg #[.int .u64 (tn (x2.lo)), .int .u64 (tn (x2.hi))]]) (v := .agg #[.int .u64 (tn (x2.lo)), .int .u64 (tn (x2.lo ||| x2.hi))]) (st_ups _ _) rfl rfl (by kernel_rfl) (fun _ _ _ h => h) (by rfl) (fun x hx => by kernel_rfl) (by intro x hx; exact calls_is (ref_Bounds_any x2 _) (congrArg (fun rr : P => (.agg #[.int .u64 (tn (rr.lo)), .int .u64 (tn (rr.hi))] : Value)) (bounds_is x2 Hhc.out))) ?_
  simp only [List.set_cons_succ, List.set_cons_zero]
  refine take_val (i := 8) (v := .bool true) (st_ups _ _) rfl rfl (by kernel_rfl) (fun _ _ _ h => h) (by rfl) (by intro x hx; go_simp; (first | done | exact rfl)) ?_
  simp only [List.set_cons_succ, List.set_cons_zero]
  refine take_val (i := 9) (v := .bool true) (st_ups _ _) rfl rfl (by kernel_rfl) (fun _ _ _ h => h) (by rfl) (by intro x hx; go_simp; (first | done | exact rfl)) ?_
  simp only [List.set_cons_succ, List.set_cons_zero]
  refine take_val (i := 10) (v := .agg #[.int .u64 (tn (x2.lo)), .int .u64 (tn (x2.hi))]) (st_ups _ _) rfl rfl (by kernel_rfl) (fun _ _ _ h => h) (by rfl) (by intro x hx; have f0 := hx.load 2 0 rfl rfl; have f1 := hx.load 2 1 rfl rfl; go_simp; (first | done | exact rfl)) ?_
  simp only [List.set_cons_succ, List.set_cons_zero]
  refine take_call (i := 11) (f := 77) (args := #[.agg #[.int .u64 (tn (x2.lo)), .int .u64 (tn (x2.hi))]]) (v := .agg #[.int .i64 (ti ((span_Sbounds x2).lo)), .int .i64 (ti ((span_Sbounds x2).hi))]) (st_ups _ _) rfl rfl (by kernel_rfl) (fun _ _ _ h => h) (by rfl) (fun x hx => by kernel_rfl) (by intro x hx; exact span_Sbounds_any x2 _) ?_
  simp only [List.set_cons_succ, List.set_cons_zero]
  refine take_val (i := 12) (v := .agg #[.int .u64 (tn (x2.lo)), .int .u64 (tn (x2.hi))]) (st_ups _ _) rfl rfl (by kernel_rfl) (fun _ _ _ h => h) (by rfl) (by intro x hx; have f0 := hx.load 2 0 rfl rfl; have f1 := hx.load 2 1 rfl rfl; go_simp; (first | done | exact rfl)) ?_
  simp only [List.set_cons_succ, List.set_cons_zero]
  refine take_call (i := 13) (f := 78) (args := #[.agg #[.int .u64 (tn (x2.lo)), .int .u64 (tn (x2.hi))]]) (v := .agg #[.int .i64 (ti ((span_Sbounds x2).lo)), .int .i64 (ti ((span_Sbounds x2).hi))]) (st_ups _ _) rfl rfl (by kernel_rfl) (fun _ _ _ h => h) (by rfl) (fun x hx => by kernel_rfl) (by intro x hx; exact calls_is (ref_Sbounds_any x2 _) (congrArg (fun rr : P => (.agg #[.int .i64 (ti (rr.lo)), .int .i64 (ti (rr.hi))] : Value)) (sbounds_is x2 Hhc.out))) ?_
  simp only [List.set_cons_succ, List.set_cons_zero]
  refine take_val (i := 14) (v := .bool true) (st_ups _ _) rfl rfl (by kernel_rfl) (fun _ _ _ h => h) (by rfl) (by intro x hx; go_simp; (first | done | exact rfl)) ?_
  simp only [List.set_cons_succ, List.set_cons_zero]
  refine take_val (i := 15) (v := .bool true) (st_ups _ _) rfl rfl (by kernel_rfl) (fun _ _ _ h => h) (by rfl) (by intro x hx; go_simp; (first | done | exact rfl)) ?_
  simp only [List.set_cons_succ, List.set_cons_zero]
  refine take_val (i := 16) (v := .bool true) (st_ups _ _) rfl rfl (by kernel_rfl) (fun _ _ _ h => h) (by rfl) (by intro x hx; go_simp; (first | done | exact rfl)) ?_
  simp only [List.set_cons_succ, List.set_cons_zero]
  refine take_val (i := 17) (v := .bool true) (st_ups _ _) rfl rfl (by kernel_rfl) (fun _ _ _ h => h) (by rfl) (by intro x hx; go_simp; (first | done | exact rfl)) ?_
  simp only [List.set_cons_succ, List.set_cons_zero]
  refine take_call (i := 18) (f := 12) (args := #[]) (v := .bool true) (st_ups _ _) rfl rfl (by kernel_rfl) (fun _ _ _ h => h) (by rfl) (fun x hx => by kernel_rfl) (by intro x hx; exact law_known_any _) ?_
  simp only [List.set_cons_succ, List.set_cons_zero]
  refine take_val (i := 19) (v := .bool true) (st_ups _ _) rfl rfl (by kernel_rfl) (fun _ _ _ h => h) (by rfl) (by intro x hx; go_simp; (first | done | exact rfl)) ?_
  simp only [List.set_cons_succ, List.set_cons_zero]
  refine take_val (i := 20) (v := .bool true) (st_ups _ _) rfl rfl (by kernel_rfl) (fun _ _ _ h => h) (by rfl) (by intro x hx; go_simp; (first | done | exact rfl)) ?_
  simp only [List.set_cons_succ, List.set_cons_zero]
  refine take_done (by kernel_rfl) ?_ _
  intro W3 hx
  replace HS := hid hx
  clear hx
  go_wp2
  exact bodyPost_ret (v := .bool true) (by simp [results, Try.results5, go_sem]) rfl ⟨rfl, HS.out.below⟩
end Go.Proofs.Ytoojdndfjfmemaa.Sp
