/-
  The walk of the law SpanAlone.
-/
import Derived.Deep.DeepCutAuto
import Derived.Test.YtoojdndfjfmemaaSpF
import Derived.Test.YtoojdndfjfmemaaSpU
import Derived.Test.YtoojdndfjfmemaaIf
namespace Go.Proofs.Ytoojdndfjfmemaa.Sp
open Go.RowKit Go.Proofs.Ytoojdndfjfmemaa.Num Go.Proofs.Ytoojdndfjfmemaa.Up
theorem bt1 {a b : Bool} (h : (bif a then b else false) = true) : a = true := by cases a <;> simp at h ⊢
theorem bt2 {a b : Bool} (h : (bif a then b else false) = true) : b = true := by cases a <;> simp at h ⊢; exact h
set_option maxRecDepth 100000 in
set_option maxHeartbeats 8000000 in
theorem spanAlone (x0 : BitVec 64) (x1 : BitVec 64) (x2 : BitVec 64)  (w : World) :
    Calls Try.prog 8 #[.int .u64 (tn (x0)), .int .u64 (tn (x1)), .int .i64 (ti (x2))] w fun e w' => e = .returned (.bool true) ∧ Below w.heap.size w w' := by
  go_enter Try.func8, Try.ntmps8
  have HS := hid (st_nil w)
  -- region 1
  go_upto_region 1 with fail
  refine lin_begin (St w []) rfl HS.out ?_
  refine lin_val (i := 0) (v := .int .u64 (tn (x0))) rfl rfl (by rfl) (by intro x hx; go_simp; (first | done | exact rfl)) ?_
  simp only [List.set_cons_succ, List.set_cons_zero]
  refine lin_call (i := 1) (f := 15) (args := #[.int .u64 (tn (x0))]) (v := .agg #[.int .u64 (tn (x0)), .int .u64 (tn (x0))]) (st_ups _ _) rfl rfl (by rfl) (fun x hx => by kernel_rfl) (by intro x hx; exact span_Of_any x0 _) ?_
  simp only [List.set_cons_succ, List.set_cons_zero]
  refine lin_new (i := 2) rfl rfl (by rfl) [.int .u64 0, .int .u64 0] 24 (fun k => .pointer (some ⟨k, 0, none⟩)) [some (.int .u64 0), some (.int .u64 0)] (lessC_eq (lessC_eq (trivial))) (by intro x hx; go_simp; (first | done | exact rfl)) (fun k1 => ?_)
  simp only [List.set_cons_succ, List.set_cons_zero]
  refine lin_store (i := 3) (St w [⟨k1, [some (.int .u64 (tn (x0))), some (.int .u64 (tn (x0)))], 24⟩]) rfl rfl (by rfl) (fun x => ((x.setCell ⟨k1, 0, none⟩ (.int .u64 (tn (x0)))).setCell ⟨k1, 1, none⟩ (.int .u64 (tn (x0))))) (by intro x hx; obtain ⟨u0, z0⟩ := hx.has 0 0 rfl (by simp); have q0 := hx.soft 0 0 rfl; obtain ⟨u1, z1⟩ := hx.has 0 1 rfl (by simp); have q1 := hx.soft 0 1 rfl; go_simp; (first | done | rfl)) (fun x hx => ((hx.put 0 0 (.int .u64 (tn (x0))) rfl).put 0 1 (.int .u64 (tn (x0))) rfl)) ?_
  refine lin_done ?_
  intro W1 hx
  replace HS := hid hx
  clear hx
  -- region 2
  go_upto_region 2 with fail
  refine lin_begin (St w [⟨k1, [some (.int .u64 (tn (x0))), some (.int .u64 (tn (x0)))], 24⟩]) rfl HS.out ?_
  refine lin_val (i := 0) (v := .int .u64 (tn (x1))) rfl rfl (by rfl) (by intro x hx; go_simp; (first | done | exact rfl)) ?_
  simp only [List.set_cons_succ, List.set_cons_zero]
  refine lin_call (i := 1) (f := 15) (args := #[.int .u64 (tn (x1))]) (v := .agg #[.int .u64 (tn (x1)), .int .u64 (tn (x1))]) (st_ups _ _) rfl rfl (by rfl) (fun x hx => by kernel_rfl) (by intro x hx; exact span_Of_any x1 _) ?_
  simp only [List.set_cons_succ, List.set_cons_zero]
  refine lin_new (i := 2) rfl rfl (by rfl) [.int .u64 0, .int .u64 0] 24 (fun k => .pointer (some ⟨k, 0, none⟩)) [some (.int .u64 0), some (.int .u64 0)] (lessC_eq (lessC_eq (trivial))) (by intro x hx; go_simp; (first | done | exact rfl)) (fun k2 => ?_)
  simp only [List.set_cons_succ, List.set_cons_zero]
  refine lin_store (i := 3) (St w [⟨k1, [some (.int .u64 (tn (x0))), some (.int .u64 (tn (x0)))], 24⟩, ⟨k2, [some (.int .u64 (tn (x1))), some (.int .u64 (tn (x1)))], 24⟩]) rfl rfl (by rfl) (fun x => ((x.setCell ⟨k2, 0, none⟩ (.int .u64 (tn (x1)))).setCell ⟨k2, 1, none⟩ (.int .u64 (tn (x1))))) (by intro x hx; obtain ⟨u0, z0⟩ := hx.has 1 0 rfl (by simp); have q0 := hx.soft 1 0 rfl; obtain ⟨u1, z1⟩ := hx.has 1 1 rfl (by simp); have q1 := hx.soft 1 1 rfl; go_simp; (first | done | rfl)) (fun x hx => ((hx.put 1 0 (.int .u64 (tn (x1))) rfl).put 1 1 (.int .u64 (tn (x1))) rfl)) ?_
  refine lin_done ?_
  intro W2 hx
  replace HS := hid hx
  clear hx
  -- region 3
  go_upto_region 3 with fail
  refine lin_begin (St w [⟨k1, [some (.int .u64 (tn (x0))), some (.int .u64 (tn (x0)))], 24⟩, ⟨k2, [some (.int .u64 (tn (x1))), some (.int .u64 (tn (x1)))], 24⟩]) rfl HS.out ?_
  refine lin_val (i := 0) (v := .int .i64 (ti (x2))) rfl rfl (by rfl) (by intro x hx; go_simp; (first | done | exact rfl)) ?_
  simp only [List.set_cons_succ, List.set_cons_zero]
  refine lin_val (i := 1) (v := .int .u64 (tn (x2))) rfl rfl (by rfl) (by intro x hx; go_simp; (first | done | exact backI x2 | exact congrArg _ (backI x2) | (rw [backI x2]; done) | (rw [backI x2]; rfl))) ?_
  simp only [List.set_cons_succ, List.set_cons_zero]
  refine lin_val (i := 2) (v := .int .u64 (tn (x2 % 64#64))) rfl rfl (by rfl) (by intro x hx; go_simp; (first | done | exact remUT x2 64#64 | exact congrArg _ (remUT x2 64#64) | (rw [remUT x2 64#64]; done) | (rw [remUT x2 64#64]; rfl))) ?_
  simp only [List.set_cons_succ, List.set_cons_zero]
  refine lin_val (i := 3) (v := .int .u64 (tn (x2 % 64#64))) rfl rfl (by rfl) (by intro x hx; go_simp; (first | done | exact rfl)) ?_
  simp only [List.set_cons_succ, List.set_cons_zero]
  refine lin_done ?_
  intro W3 hx
  replace HS := hid hx
  clear hx
  -- region 4
  go_upto_region 4 with fail
  refine lin_begin (St w [⟨k1, [some (.int .u64 (tn (x0))), some (.int .u64 (tn (x0)))], 24⟩, ⟨k2, [some (.int .u64 (tn (x1))), some (.int .u64 (tn (x1)))], 24⟩]) rfl HS.out ?_
  refine lin_val (i := 0) (v := .int .u64 (tn (x0))) rfl rfl (by rfl) (by intro x hx; go_simp; (first | done | exact rfl)) ?_
  simp only [List.set_cons_succ, List.set_cons_zero]
  refine lin_val (i := 1) (v := .int .i64 (ti (x0))) rfl rfl (by rfl) (by intro x hx; go_simp; (first | done | exact toI64 x0 | exact congrArg _ (toI64 x0) | (rw [toI64 x0]; done) | (rw [toI64 x0]; rfl))) ?_
  simp only [List.set_cons_succ, List.set_cons_zero]
  refine lin_val (i := 2) (v := .int .i64 (ti (x0))) rfl rfl (by rfl) (by intro x hx; go_simp; (first | done | exact rfl)) ?_
  simp only [List.set_cons_succ, List.set_cons_zero]
  refine lin_done ?_
  intro W4 hx
  replace HS := hid hx
  clear hx
  -- region 5
  go_upto_region 5 with fail
  refine lin_begin (St w [⟨k1, [some (.int .u64 (tn (x0))), some (.int .u64 (tn (x0)))], 24⟩, ⟨k2, [some (.int .u64 (tn (x1))), some (.int .u64 (tn (x1)))], 24⟩]) rfl HS.out ?_
  refine lin_val (i := 0) (v := .int .u64 (tn (x1))) rfl rfl (by rfl) (by intro x hx; go_simp; (first | done | exact rfl)) ?_
  simp only [List.set_cons_succ, List.set_cons_zero]
  refine lin_val (i := 1) (v := .int .i64 (ti (x1))) rfl rfl (by rfl) (by intro x hx; go_simp; (first | done | exact toI64 x1 | exact congrArg _ (toI64 x1) | (rw [toI64 x1]; done) | (rw [toI64 x1]; rfl))) ?_
  simp only [List.set_cons_succ, List.set_cons_zero]
  refine lin_val (i := 2) (v := .int .i64 (ti (x1))) rfl rfl (by rfl) (by intro x hx; go_simp; (first | done | exact rfl)) ?_
  simp only [List.set_cons_succ, List.set_cons_zero]
  refine lin_done ?_
  intro W5 hx
  replace HS := hid hx
  clear hx
  -- region 6
  go_upto_region 6 with fail
  refine lin_begin (St w [⟨k1, [some (.int .u64 (tn (x0))), some (.int .u64 (tn (x0)))], 24⟩, ⟨k2, [some (.int .u64 (tn (x1))), some (.int .u64 (tn (x1)))], 24⟩]) rfl HS.out ?_
  refine lin_val (i := 0) (v := .agg #[.int .u64 (tn (x0)), .int .u64 (tn (x0))]) rfl rfl (by rfl) (by intro x hx; have f0 := hx.load 0 0 rfl rfl; have f1 := hx.load 0 1 rfl rfl; go_simp; (first | done | exact rfl)) ?_
  simp only [List.set_cons_succ, List.set_cons_zero]
  refine lin_val (i := 1) (v := .agg #[.int .u64 (tn (x1)), .int .u64 (tn (x1))]) rfl rfl (by rfl) (by intro x hx; have f0 := hx.load 1 0 rfl rfl; have f1 := hx.load 1 1 rfl rfl; go_simp; (first | done | exact rfl)) ?_
  simp only [List.set_cons_succ, List.set_cons_zero]
  refine lin_call (i := 2) (f := 25) (args := #[.agg #[.int .u64 (tn (x0)), .int .u64 (tn (x0))], .agg #[.int .u64 (tn (x1)), .int .u64 (tn (x1))]]) (v := .agg #[.int .u64 (tn ((span_Add (P.mk x0 x0) (P.mk x1 x1)).lo)), .int .u64 (tn ((span_Add (P.mk x0 x0) (P.mk x1 x1)).hi))]) (st_ups _ _) rfl rfl (by rfl) (fun x hx => by kernel_rfl) (by intro x hx; exact span_Add_any (P.mk x0 x0) (P.mk x1 x1) _) ?_
  simp only [List.set_cons_succ, List.set_cons_zero]
  refine lin_val (i := 3) (v := .int .u64 (tn (x0))) rfl rfl (by rfl) (by intro x hx; go_simp; (first | done | exact rfl)) ?_
  simp only [List.set_cons_succ, List.set_cons_zero]
  refine lin_val (i := 4) (v := .int .u64 (tn (x1))) rfl rfl (by rfl) (by intro x hx; go_simp; (first | done | exact rfl)) ?_
  simp only [List.set_cons_succ, List.set_cons_zero]
  refine lin_val (i := 5) (v := .int .u64 (tn (x0 + x1))) rfl rfl (by rfl) (by intro x hx; go_simp; (first | done | exact addUT x0 x1 | exact congrArg _ (addUT x0 x1) | (rw [addUT x0 x1]; done) | (rw [addUT x0 x1]; rfl))) ?_
  simp only [List.set_cons_succ, List.set_cons_zero]
  refine lin_call (i := 6) (f := 15) (args := #[.int .u64 (tn (x0 + x1))]) (v := .agg #[.int .u64 (tn (x0 + x1)), .int .u64 (tn (x0 + x1))]) (st_ups _ _) rfl rfl (by rfl) (fun x hx => by kernel_rfl) (by intro x hx; exact span_Of_any (x0 + x1) _) ?_
  simp only [List.set_cons_succ, List.set_cons_zero]
  refine lin_val (i := 7) (v := .bool false) rfl rfl (by rfl) (by intro x hx; go_simp; (first | done | exact (eqPT (fun b => Result.ok (Next.value (Value.bool (!b))) x) ((span_Add (P.mk x0 x0) (P.mk x1 x1)).lo) ((span_Add (P.mk x0 x0) (P.mk x1 x1)).hi) (x0 + x1) (x0 + x1)).trans (congrArg (fun b => Result.ok (Next.value (Value.bool (!b))) x) (eqP_of (alone_add x0 x1))))) ?_
  simp only [List.set_cons_succ, List.set_cons_zero]
  refine lin_val (i := 8) (v := .bool false) rfl rfl (by rfl) (by intro x hx; go_simp; (first | done | exact rfl)) ?_
  simp only [List.set_cons_succ, List.set_cons_zero]
  refine lin_val (i := 9) (v := .agg #[.int .u64 (tn (x0)), .int .u64 (tn (x0))]) rfl rfl (by rfl) (by intro x hx; have f0 := hx.load 0 0 rfl rfl; have f1 := hx.load 0 1 rfl rfl; go_simp; (first | done | exact rfl)) ?_
  simp only [List.set_cons_succ, List.set_cons_zero]
  refine lin_val (i := 10) (v := .agg #[.int .u64 (tn (x1)), .int .u64 (tn (x1))]) rfl rfl (by rfl) (by intro x hx; have f0 := hx.load 1 0 rfl rfl; have f1 := hx.load 1 1 rfl rfl; go_simp; (first | done | exact rfl)) ?_
  simp only [List.set_cons_succ, List.set_cons_zero]
  refine lin_call (i := 11) (f := 27) (args := #[.agg #[.int .u64 (tn (x0)), .int .u64 (tn (x0))], .agg #[.int .u64 (tn (x1)), .int .u64 (tn (x1))]]) (v := .agg #[.int .u64 (tn ((span_Sub (P.mk x0 x0) (P.mk x1 x1)).lo)), .int .u64 (tn ((span_Sub (P.mk x0 x0) (P.mk x1 x1)).hi))]) (st_ups _ _) rfl rfl (by rfl) (fun x hx => by kernel_rfl) (by intro x hx; exact span_Sub_any (P.mk x0 x0) (P.mk x1 x1) _) ?_
  simp only [List.set_cons_succ, List.set_cons_zero]
  refine lin_val (i := 12) (v := .int .u64 (tn (x0))) rfl rfl (by rfl) (by intro x hx; go_simp; (first | done | exact rfl)) ?_
  simp only [List.set_cons_succ, List.set_cons_zero]
  refine lin_val (i := 13) (v := .int .u64 (tn (x1))) rfl rfl (by rfl) (by intro x hx; go_simp; (first | done | exact rfl)) ?_
  simp only [List.set_cons_succ, List.set_cons_zero]
  refine lin_val (i := 14) (v := .int .u64 (tn (x0 - x1))) rfl rfl (by rfl) (by intro x hx; go_simp; (first | done | exact subUT x0 x1 | exact congrArg _ (subUT x0 x1) | (rw [subUT x0 x1]; done) | (rw [subUT x0 x1]; rfl))) ?_
  simp only [List.set_cons_succ, List.set_cons_zero]
  refine lin_call (i := 15) (f := 15) (args := #[.int .u64 (tn (x0 - x1))]) (v := .agg #[.int .u64 (tn (x0 - x1)), .int .u64 (tn (x0 - x1))]) (st_ups _ _) rfl rfl (by rfl) (fun x hx => by kernel_rfl) (by intro x hx; exact span_Of_any (x0 - x1) _) ?_
  simp only [List.set_cons_succ, List.set_cons_zero]
  refine lin_val (i := 16) (v := .bool false) rfl rfl (by rfl) (by intro x hx; go_simp; (first | done | exact (eqPT (fun b => Result.ok (Next.value (Value.bool (!b))) x) ((span_Sub (P.mk x0 x0) (P.mk x1 x1)).lo) ((span_Sub (P.mk x0 x0) (P.mk x1 x1)).hi) (x0 - x1) (x0 - x1)).trans (congrArg (fun b => Result.ok (Next.value (Value.bool (!b))) x) (eqP_of (alone_sub x0 x1))))) ?_
  simp only [List.set_cons_succ, List.set_cons_zero]
  refine lin_val (i := 17) (v := .bool false) rfl rfl (by rfl) (by intro x hx; go_simp; (first | done | exact rfl)) ?_
  simp only [List.set_cons_succ, List.set_cons_zero]
  refine lin_val (i := 18) (v := .bool false) rfl rfl (by rfl) (by intro x hx; go_simp; (first | done | exact rfl)) ?_
  simp only [List.set_cons_succ, List.set_cons_zero]
  refine lin_val (i := 19) (v := .agg #[.int .u64 (tn (x0)), .int .u64 (tn (x0))]) rfl rfl (by rfl) (by intro x hx; have f0 := hx.load 0 0 rfl rfl; have f1 := hx.load 0 1 rfl rfl; go_simp; (first | done | exact rfl)) ?_
  simp only [List.set_cons_succ, List.set_cons_zero]
  refine lin_val (i := 20) (v := .agg #[.int .u64 (tn (x1)), .int .u64 (tn (x1))]) rfl rfl (by rfl) (by intro x hx; have f0 := hx.load 1 0 rfl rfl; have f1 := hx.load 1 1 rfl rfl; go_simp; (first | done | exact rfl)) ?_
  simp only [List.set_cons_succ, List.set_cons_zero]
  refine lin_call (i := 21) (f := 31) (args := #[.agg #[.int .u64 (tn (x0)), .int .u64 (tn (x0))], .agg #[.int .u64 (tn (x1)), .int .u64 (tn (x1))]]) (v := .agg #[.int .u64 (tn ((span_Div (P.mk x0 x0) (P.mk x1 x1)).lo)), .int .u64 (tn ((span_Div (P.mk x0 x0) (P.mk x1 x1)).hi))]) (st_ups _ _) rfl rfl (by rfl) (fun x hx => by kernel_rfl) (by intro x hx; exact span_Div_any (P.mk x0 x0) (P.mk x1 x1) _) ?_
  simp only [List.set_cons_succ, List.set_cons_zero]
  refine lin_val (i := 22) (v := .int .u64 (tn (x0))) rfl rfl (by rfl) (by intro x hx; go_simp; (first | done | exact rfl)) ?_
  simp only [List.set_cons_succ, List.set_cons_zero]
  refine lin_val (i := 23) (v := .int .u64 (tn (x1))) rfl rfl (by rfl) (by intro x hx; go_simp; (first | done | exact rfl)) ?_
  simp only [List.set_cons_succ, List.set_cons_zero]
  refine lin_call (i := 24) (f := 81) (args := #[.int .i64 (ti (48#64)), .int .u64 (tn (x0)), .int .u64 (tn (x1))]) (v := .int .u64 (tn (aluV 64 (ti 48#64) x0 x1))) (st_ups _ _) rfl rfl (by rfl) (fun x hx => by kernel_rfl) (by intro x hx; exact law_made_any 48#64 x0 x1 _) ?_
  simp only [List.set_cons_succ, List.set_cons_zero]
  refine lin_call (i := 25) (f := 15) (args := #[.int .u64 (tn (aluV 64 (ti 48#64) x0 x1))]) (v := .agg #[.int .u64 (tn (aluV 64 (ti 48#64) x0 x1)), .int .u64 (tn (aluV 64 (ti 48#64) x0 x1))]) (st_ups _ _) rfl rfl (by rfl) (fun x hx => by kernel_rfl) (by intro x hx; exact span_Of_any (aluV 64 (ti 48#64) x0 x1) _) ?_
  simp only [List.set_cons_succ, List.set_cons_zero]
  refine lin_val (i := 26) (v := .bool false) rfl rfl (by rfl) (by intro x hx; go_simp; (first | done | exact (eqPT (fun b => Result.ok (Next.value (Value.bool (!b))) x) ((span_Div (P.mk x0 x0) (P.mk x1 x1)).lo) ((span_Div (P.mk x0 x0) (P.mk x1 x1)).hi) (aluV 64 (ti 48#64) x0 x1) (aluV 64 (ti 48#64) x0 x1)).trans (congrArg (fun b => Result.ok (Next.value (Value.bool (!b))) x) (eqP_of (alone_div x0 x1))))) ?_
  simp only [List.set_cons_succ, List.set_cons_zero]
  refine lin_val (i := 27) (v := .bool false) rfl rfl (by rfl) (by intro x hx; go_simp; (first | done | exact rfl)) ?_
  simp only [List.set_cons_succ, List.set_cons_zero]
  refine lin_val (i := 28) (v := .bool false) rfl rfl (by rfl) (by intro x hx; go_simp; (first | done | exact rfl)) ?_
  simp only [List.set_cons_succ, List.set_cons_zero]
  refine lin_val (i := 29) (v := .agg #[.int .u64 (tn (x0)), .int .u64 (tn (x0))]) rfl rfl (by rfl) (by intro x hx; have f0 := hx.load 0 0 rfl rfl; have f1 := hx.load 0 1 rfl rfl; go_simp; (first | done | exact rfl)) ?_
  simp only [List.set_cons_succ, List.set_cons_zero]
  refine lin_val (i := 30) (v := .int .i64 (ti (x2))) rfl rfl (by rfl) (by intro x hx; go_simp; (first | done | exact rfl)) ?_
  simp only [List.set_cons_succ, List.set_cons_zero]
  refine lin_call (i := 31) (f := 43) (args := #[.agg #[.int .u64 (tn (x0)), .int .u64 (tn (x0))], .int .i64 (ti (x2))]) (v := .agg #[.int .u64 (tn ((P.mk x0 x0).lo >>> (x2 % 64#64).toNat)), .int .u64 (tn ((P.mk x0 x0).hi >>> (x2 % 64#64).toNat))]) (st_ups _ _) rfl rfl (by rfl) (fun x hx => by kernel_rfl) (by intro x hx; exact span_Rsh_any (P.mk x0 x0) x2 _) ?_
  simp only [List.set_cons_succ, List.set_cons_zero]
  refine lin_val (i := 32) (v := .int .u64 (tn (x0))) rfl rfl (by rfl) (by intro x hx; go_simp; (first | done | exact rfl)) ?_
  simp only [List.set_cons_succ, List.set_cons_zero]
  refine lin_val (i := 33) (v := .int .u64 (tn (x2 % 64#64))) rfl rfl (by rfl) (by intro x hx; go_simp; (first | done | exact rfl)) ?_
  simp only [List.set_cons_succ, List.set_cons_zero]
  refine lin_val (i := 34) (v := .int .u64 (tn (x0 >>> (x2 % 64#64).toNat))) rfl rfl (by rfl) (by intro x hx; have hy := tn_lo (x2 % 64#64); go_simp; (first | done | exact shrUU x0 (x2 % 64#64) hy | exact congrArg _ (shrUU x0 (x2 % 64#64) hy) | (rw [shrUU x0 (x2 % 64#64) hy]; done) | (rw [shrUU x0 (x2 % 64#64) hy]; rfl))) ?_
  simp only [List.set_cons_succ, List.set_cons_zero]
  refine lin_call (i := 35) (f := 15) (args := #[.int .u64 (tn (x0 >>> (x2 % 64#64).toNat))]) (v := .agg #[.int .u64 (tn (x0 >>> (x2 % 64#64).toNat)), .int .u64 (tn (x0 >>> (x2 % 64#64).toNat))]) (st_ups _ _) rfl rfl (by rfl) (fun x hx => by kernel_rfl) (by intro x hx; exact span_Of_any (x0 >>> (x2 % 64#64).toNat) _) ?_
  simp only [List.set_cons_succ, List.set_cons_zero]
  refine lin_val (i := 36) (v := .bool false) rfl rfl (by rfl) (by intro x hx; go_simp; (first | done | exact (eqPT (fun b => Result.ok (Next.value (Value.bool (!b))) x) ((P.mk x0 x0).lo >>> (x2 % 64#64).toNat) ((P.mk x0 x0).hi >>> (x2 % 64#64).toNat) (x0 >>> (x2 % 64#64).toNat) (x0 >>> (x2 % 64#64).toNat)).trans (congrArg (fun b => Result.ok (Next.value (Value.bool (!b))) x) (eqP_of rfl)))) ?_
  simp only [List.set_cons_succ, List.set_cons_zero]
  refine lin_val (i := 37) (v := .bool false) rfl rfl (by rfl) (by intro x hx; go_simp; (first | done | exact rfl)) ?_
  simp only [List.set_cons_succ, List.set_cons_zero]
  refine lin_val (i := 38) (v := .bool false) rfl rfl (by rfl) (by intro x hx; go_simp; (first | done | exact rfl)) ?_
  simp only [List.set_cons_succ, List.set_cons_zero]
  refine lin_val (i := 39) (v := .agg #[.int .u64 (tn (x0)), .int .u64 (tn (x0))]) rfl rfl (by rfl) (by intro x hx; have f0 := hx.load 0 0 rfl rfl; have f1 := hx.load 0 1 rfl rfl; go_simp; (first | done | exact rfl)) ?_
  simp only [List.set_cons_succ, List.set_cons_zero]
  refine lin_call (i := 40) (f := 45) (args := #[.agg #[.int .u64 (tn (x0)), .int .u64 (tn (x0))]]) (v := .agg #[.int .u64 (tn ((span_Cut (P.mk x0 x0)).lo)), .int .u64 (tn ((span_Cut (P.mk x0 x0)).hi))]) (st_ups _ _) rfl rfl (by rfl) (fun x hx => by kernel_rfl) (by intro x hx; exact span_Cut_any (P.mk x0 x0) _) ?_
  simp only [List.set_cons_succ, List.set_cons_zero]
  refine lin_val (i := 41) (v := .int .u64 (tn (x0))) rfl rfl (by rfl) (by intro x hx; go_simp; (first | done | exact rfl)) ?_
  simp only [List.set_cons_succ, List.set_cons_zero]
  refine lin_val (i := 42) (v := .int .u64 (tn (x0 &&& 4294967295#64))) rfl rfl (by rfl) (by intro x hx; go_simp; (first | done | exact andUT x0 4294967295#64 | exact congrArg _ (andUT x0 4294967295#64) | (rw [andUT x0 4294967295#64]; done) | (rw [andUT x0 4294967295#64]; rfl))) ?_
  simp only [List.set_cons_succ, List.set_cons_zero]
  refine lin_call (i := 43) (f := 15) (args := #[.int .u64 (tn (x0 &&& 4294967295#64))]) (v := .agg #[.int .u64 (tn (x0 &&& 4294967295#64)), .int .u64 (tn (x0 &&& 4294967295#64))]) (st_ups _ _) rfl rfl (by rfl) (fun x hx => by kernel_rfl) (by intro x hx; exact span_Of_any (x0 &&& 4294967295#64) _) ?_
  simp only [List.set_cons_succ, List.set_cons_zero]
  refine lin_val (i := 44) (v := .bool false) rfl rfl (by rfl) (by intro x hx; go_simp; (first | done | exact (eqPT (fun b => Result.ok (Next.value (Value.bool (!b))) x) ((span_Cut (P.mk x0 x0)).lo) ((span_Cut (P.mk x0 x0)).hi) (x0 &&& 4294967295#64) (x0 &&& 4294967295#64)).trans (congrArg (fun b => Result.ok (Next.value (Value.bool (!b))) x) (eqP_of (alone_cut x0))))) ?_
  simp only [List.set_cons_succ, List.set_cons_zero]
  refine lin_val (i := 45) (v := .bool false) rfl rfl (by rfl) (by intro x hx; go_simp; (first | done | exact rfl)) ?_
  simp only [List.set_cons_succ, List.set_cons_zero]
  refine lin_val (i := 46) (v := .bool false) rfl rfl (by rfl) (by intro x hx; go_simp; (first | done | exact rfl)) ?_
  simp only [List.set_cons_succ, List.set_cons_zero]
  refine lin_val (i := 47) (v := .int .i64 (ti (x0))) rfl rfl (by rfl) (by intro x hx; go_simp; (first | done | exact rfl)) ?_
  simp only [List.set_cons_succ, List.set_cons_zero]
  refine lin_call (i := 48) (f := 50) (args := #[.int .i64 (ti (x0))]) (v := .agg #[.int .i64 (ti (x0)), .int .i64 (ti (x0))]) (st_ups _ _) rfl rfl (by rfl) (fun x hx => by kernel_rfl) (by intro x hx; exact span_Sof_any x0 _) ?_
  simp only [List.set_cons_succ, List.set_cons_zero]
  refine lin_val (i := 49) (v := .int .i64 (ti (x2))) rfl rfl (by rfl) (by intro x hx; go_simp; (first | done | exact rfl)) ?_
  simp only [List.set_cons_succ, List.set_cons_zero]
  refine lin_call (i := 50) (f := 64) (args := #[.agg #[.int .i64 (ti (x0)), .int .i64 (ti (x0))], .int .i64 (ti (x2))]) (v := .agg #[.int .i64 (ti ((span_down_int64 (P.mk x0 x0) x2).lo)), .int .i64 (ti ((span_down_int64 (P.mk x0 x0) x2).hi))]) (st_ups _ _) rfl rfl (by rfl) (fun x hx => by kernel_rfl) (by intro x hx; exact span_Sarsh_any (P.mk x0 x0) x2 _) ?_
  simp only [List.set_cons_succ, List.set_cons_zero]
  refine lin_val (i := 51) (v := .int .i64 (ti (x0))) rfl rfl (by rfl) (by intro x hx; go_simp; (first | done | exact rfl)) ?_
  simp only [List.set_cons_succ, List.set_cons_zero]
  refine lin_val (i := 52) (v := .int .u64 (tn (x2 % 64#64))) rfl rfl (by rfl) (by intro x hx; go_simp; (first | done | exact rfl)) ?_
  simp only [List.set_cons_succ, List.set_cons_zero]
  refine lin_val (i := 53) (v := .int .i64 (ti (BitVec.sshiftRight x0 (x2 % 64#64).toNat))) rfl rfl (by rfl) (by intro x hx; have hy := tn_lo (x2 % 64#64); go_simp; (first | done | exact shrIU x0 (x2 % 64#64) hy | exact congrArg _ (shrIU x0 (x2 % 64#64) hy) | (rw [shrIU x0 (x2 % 64#64) hy]; done) | (rw [shrIU x0 (x2 % 64#64) hy]; rfl))) ?_
  simp only [List.set_cons_succ, List.set_cons_zero]
  refine lin_call (i := 54) (f := 50) (args := #[.int .i64 (ti (BitVec.sshiftRight x0 (x2 % 64#64).toNat))]) (v := .agg #[.int .i64 (ti (BitVec.sshiftRight x0 (x2 % 64#64).toNat)), .int .i64 (ti (BitVec.sshiftRight x0 (x2 % 64#64).toNat))]) (st_ups _ _) rfl rfl (by rfl) (fun x hx => by kernel_rfl) (by intro x hx; exact span_Sof_any (BitVec.sshiftRight x0 (x2 % 64#64).toNat) _) ?_
  simp only [List.set_cons_succ, List.set_cons_zero]
  refine lin_val (i := 55) (v := .bool false) rfl rfl (by rfl) (by intro x hx; go_simp; (first | done | exact (eqST (fun b => Result.ok (Next.value (Value.bool (!b))) x) ((span_down_int64 (P.mk x0 x0) x2).lo) ((span_down_int64 (P.mk x0 x0) x2).hi) (BitVec.sshiftRight x0 (x2 % 64#64).toNat) (BitVec.sshiftRight x0 (x2 % 64#64).toNat)).trans (congrArg (fun b => Result.ok (Next.value (Value.bool (!b))) x) (eqS_of rfl)))) ?_
  simp only [List.set_cons_succ, List.set_cons_zero]
  refine lin_val (i := 56) (v := .bool false) rfl rfl (by rfl) (by intro x hx; go_simp; (first | done | exact rfl)) ?_
  simp only [List.set_cons_succ, List.set_cons_zero]
  refine lin_done ?_
  intro W6 hx
  replace HS := hid hx
  clear hx
  -- region 8
  go_upto_region 8 with fail
  refine up_begin (St w [⟨k1, [some (.int .u64 (tn (x0))), some (.int .u64 (tn (x0)))], 24⟩, ⟨k2, [some (.int .u64 (tn (x1))), some (.int .u64 (tn (x1)))], 24⟩]) 60 rfl (by kernel_rfl) (HS.out.drew) ?_
  refine take_val (i := 0) (v := .int .u64 (tn (x1))) (st_ups _ _) rfl rfl (by kernel_rfl) (fun _ _ _ h => h) (by rfl) (by intro x hx; go_simp; (first | done | exact rfl)) ?_
  simp only [List.set_cons_succ, List.set_cons_zero]
  refine take_val (i := 1) (v := .bool ((x1 == 0#64))) (st_ups _ _) rfl rfl (by kernel_rfl) (fun _ _ _ h => h) (by rfl) (by intro x hx; go_simp; (first | done | exact eqUT x1 0#64 | exact congrArg _ (eqUT x1 0#64) | (rw [eqUT x1 0#64]; done) | (rw [eqUT x1 0#64]; rfl))) ?_
  simp only [List.set_cons_succ, List.set_cons_zero]
  refine take_val (i := 2) (v := .bool ((x1 == 0#64))) (st_ups _ _) rfl rfl (by kernel_rfl) (fun _ _ _ h => h) (by rfl) (by intro x hx; go_simp; (first | done | exact rfl)) ?_
  simp only [List.set_cons_succ, List.set_cons_zero]
  refine take_if (i := 3) (v := .agg #[.int .u64 (tn (x0)), .int .u64 (tn (x0))]) (x1 == 0#64) (st_ups _ _) rfl rfl (by kernel_rfl) (fun _ _ _ _ h => h) (by generalize (x1 == 0#64) = gg0; cases gg0 <;> rfl) (by intro hb; have hb1 := hid (show ((x1 == 0#64)) = true from hb); intro x hx; (try simp only [hb]); (try simp only [cond_true]); have f0 := hx.load 0 0 rfl rfl; have f1 := hx.load 0 1 rfl rfl; go_simp; (first | done | exact rfl)) ?_
  simp only [List.set_cons_succ, List.set_cons_zero]
  refine take_if (i := 4) (v := .agg #[.int .u64 (tn (x1)), .int .u64 (tn (x1))]) (x1 == 0#64) (st_ups _ _) rfl rfl (by kernel_rfl) (fun _ _ _ _ h => h) (by generalize (x1 == 0#64) = gg0; cases gg0 <;> rfl) (by intro hb; have hb2 := hid (show ((x1 == 0#64)) = true from hb); intro x hx; (try simp only [hb]); (try simp only [cond_true]); have f0 := hx.load 1 0 rfl rfl; have f1 := hx.load 1 1 rfl rfl; go_simp; (first | done | exact rfl)) ?_
  simp only [List.set_cons_succ, List.set_cons_zero]
  refine take_if_call (i := 5) (f := 33) (args := #[.agg #[.int .u64 (tn (x0)), .int .u64 (tn (x0))], .agg #[.int .u64 (tn (x1)), .int .u64 (tn (x1))]]) (v := .agg #[.int .u64 (tn ((span_Mod (P.mk x0 x0) (P.mk x1 x1)).lo)), .int .u64 (tn ((span_Mod (P.mk x0 x0) (P.mk x1 x1)).hi))]) (x1 == 0#64) (st_ups _ _) rfl rfl (by kernel_rfl) (fun _ _ _ _ h => h) (by generalize (x1 == 0#64) = gg0; cases gg0 <;> rfl) (by intro hb; have hb3 := hid (show ((x1 == 0#64)) = true from hb); intro x hx; (try simp only [hb]); (try simp only [cond_true]); kernel_rfl) (by intro hb; have hb3 := hid (show ((x1 == 0#64)) = true from hb); intro x hx; exact span_Mod_any (P.mk x0 x0) (P.mk x1 x1) _) ?_
  simp only [List.set_cons_succ, List.set_cons_zero]
  refine take_if (i := 6) (v := .agg #[.int .u64 (tn (x0)), .int .u64 (tn (x0))]) (x1 == 0#64) (st_ups _ _) rfl rfl (by kernel_rfl) (fun _ _ _ _ h => h) (by generalize (x1 == 0#64) = gg0; cases gg0 <;> rfl) (by intro hb; have hb4 := hid (show ((x1 == 0#64)) = true from hb); intro x hx; (try simp only [hb]); (try simp only [cond_true]); have f0 := hx.load 0 0 rfl rfl; have f1 := hx.load 0 1 rfl rfl; go_simp; (first | done | exact rfl)) ?_
  simp only [List.set_cons_succ, List.set_cons_zero]
  refine take_if (i := 7) (v := .bool false) (x1 == 0#64) (st_ups _ _) rfl rfl (by kernel_rfl) (fun _ _ _ _ h => h) (by generalize (x1 == 0#64) = gg0; cases gg0 <;> rfl) (by intro hb; have hb5 := hid (show ((x1 == 0#64)) = true from hb); intro x hx; (try simp only [hb]); (try simp only [cond_true]); go_simp; (first | done | exact (eqPT (fun b => Result.ok (Next.value (Value.bool (!b))) x) ((span_Mod (P.mk x0 x0) (P.mk x1 x1)).lo) ((span_Mod (P.mk x0 x0) (P.mk x1 x1)).hi) x0 x0).trans (congrArg (fun b => Result.ok (Next.value (Value.bool (!b))) x) (eqP_of (alone_mod0 x0 x1 hb5.out))))) ?_
  simp only [List.set_cons_succ, List.set_cons_zero]
  refine take_val (i := 8) (v := .bool false) (st_ups _ _) rfl rfl (by kernel_rfl) (fun _ _ _ h => h) (by rfl) (by intro x hx; (cases hq : ((x1 == 0#64)) <;> first | rfl | (simp only [hq]; rfl) | simp [hq])) ?_
  simp only [List.set_cons_succ, List.set_cons_zero]
  refine take_val (i := 9) (v := .bool false) (st_ups _ _) rfl rfl (by kernel_rfl) (fun _ _ _ h => h) (by rfl) (by intro x hx; go_simp; (first | done | exact rfl)) ?_
  simp only [List.set_cons_succ, List.set_cons_zero]
  refine take_val (i := 10) (v := .int .u64 (tn (x0))) (st_ups _ _) rfl rfl (by kernel_rfl) (fun _ _ _ h => h) (by rfl) (by intro x hx; go_simp; (first | done | exact rfl)) ?_
  simp only [List.set_cons_succ, List.set_cons_zero]
  refine take_val (i := 11) (v := .int .u64 (tn (x1))) (st_ups _ _) rfl rfl (by kernel_rfl) (fun _ _ _ h => h) (by rfl) (by intro x hx; go_simp; (first | done | exact rfl)) ?_
  simp only [List.set_cons_succ, List.set_cons_zero]
  refine take_val (i := 12) (v := .bool (ltU x0 x1)) (st_ups _ _) rfl rfl (by kernel_rfl) (fun _ _ _ h => h) (by rfl) (by intro x hx; go_simp; (first | done | exact ltUT x0 x1 | exact congrArg _ (ltUT x0 x1) | (rw [ltUT x0 x1]; done) | (rw [ltUT x0 x1]; rfl))) ?_
  simp only [List.set_cons_succ, List.set_cons_zero]
  refine take_val (i := 13) (v := .bool (ltU x0 x1)) (st_ups _ _) rfl rfl (by kernel_rfl) (fun _ _ _ h => h) (by rfl) (by intro x hx; go_simp; (first | done | exact rfl)) ?_
  simp only [List.set_cons_succ, List.set_cons_zero]
  refine take_if (i := 14) (v := .agg #[.int .u64 (tn (x0)), .int .u64 (tn (x0))]) (ltU x0 x1) (st_ups _ _) rfl rfl (by kernel_rfl) (fun _ _ _ _ h => h) (by generalize (ltU x0 x1) = gg0; cases gg0 <;> rfl) (by intro hb; have hb6 := hid (show (ltU x0 x1) = true from hb); intro x hx; (try simp only [hb]); (try simp only [cond_true]); have f0 := hx.load 0 0 rfl rfl; have f1 := hx.load 0 1 rfl rfl; go_simp; (first | done | exact rfl)) ?_
  simp only [List.set_cons_succ, List.set_cons_zero]
  refine take_if (i := 15) (v := .agg #[.int .u64 (tn (x1)), .int .u64 (tn (x1))]) (ltU x0 x1) (st_ups _ _) rfl rfl (by kernel_rfl) (fun _ _ _ _ h => h) (by generalize (ltU x0 x1) = gg0; cases gg0 <;> rfl) (by intro hb; have hb7 := hid (show (ltU x0 x1) = true from hb); intro x hx; (try simp only [hb]); (try simp only [cond_true]); have f0 := hx.load 1 0 rfl rfl; have f1 := hx.load 1 1 rfl rfl; go_simp; (first | done | exact rfl)) ?_
  simp only [List.set_cons_succ, List.set_cons_zero]
  refine take_if_call (i := 16) (f := 33) (args := #[.agg #[.int .u64 (tn (x0)), .int .u64 (tn (x0))], .agg #[.int .u64 (tn (x1)), .int .u64 (tn (x1))]]) (v := .agg #[.int .u64 (tn ((span_Mod (P.mk x0 x0) (P.mk x1 x1)).lo)), .int .u64 (tn ((span_Mod (P.mk x0 x0) (P.mk x1 x1)).hi))]) (ltU x0 x1) (st_ups _ _) rfl rfl (by kernel_rfl) (fun _ _ _ _ h => h) (by generalize (ltU x0 x1) = gg0; cases gg0 <;> rfl) (by intro hb; have hb8 := hid (show (ltU x0 x1) = true from hb); intro x hx; (try simp only [hb]); (try simp only [cond_true]); kernel_rfl) (by intro hb; have hb8 := hid (show (ltU x0 x1) = true from hb); intro x hx; exact span_Mod_any (P.mk x0 x0) (P.mk x1 x1) _) ?_
  simp only [List.set_cons_succ, List.set_cons_zero]
  refine take_if (i := 17) (v := .agg #[.int .u64 (tn (x0)), .int .u64 (tn (x0))]) (ltU x0 x1) (st_ups _ _) rfl rfl (by kernel_rfl) (fun _ _ _ _ h => h) (by generalize (ltU x0 x1) = gg0; cases gg0 <;> rfl) (by intro hb; have hb9 := hid (show (ltU x0 x1) = true from hb); intro x hx; (try simp only [hb]); (try simp only [cond_true]); have f0 := hx.load 0 0 rfl rfl; have f1 := hx.load 0 1 rfl rfl; go_simp; (first | done | exact rfl)) ?_
  simp only [List.set_cons_succ, List.set_cons_zero]
  refine take_if (i := 18) (v := .bool false) (ltU x0 x1) (st_ups _ _) rfl rfl (by kernel_rfl) (fun _ _ _ _ h => h) (by generalize (ltU x0 x1) = gg0; cases gg0 <;> rfl) (by intro hb; have hb10 := hid (show (ltU x0 x1) = true from hb); intro x hx; (try simp only [hb]); (try simp only [cond_true]); go_simp; (first | done | exact (eqPT (fun b => Result.ok (Next.value (Value.bool (!b))) x) ((span_Mod (P.mk x0 x0) (P.mk x1 x1)).lo) ((span_Mod (P.mk x0 x0) (P.mk x1 x1)).hi) x0 x0).trans (congrArg (fun b => Result.ok (Next.value (Value.bool (!b))) x) (eqP_of (alone_modlt x0 x1 hb10.out))))) ?_
  simp only [List.set_cons_succ, List.set_cons_zero]
  refine take_val (i := 19) (v := .bool false) (st_ups _ _) rfl rfl (by kernel_rfl) (fun _ _ _ h => h) (by rfl) (by intro x hx; (cases hq : (ltU x0 x1) <;> first | rfl | (simp only [hq]; rfl) | simp [hq])) ?_
  simp only [List.set_cons_succ, List.set_cons_zero]
  refine take_val (i := 20) (v := .bool false) (st_ups _ _) rfl rfl (by kernel_rfl) (fun _ _ _ h => h) (by rfl) (by intro x hx; go_simp; (first | done | exact rfl)) ?_
  simp only [List.set_cons_succ, List.set_cons_zero]
  refine take_val (i := 21) (v := .bool false) (st_ups _ _) rfl rfl (by kernel_rfl) (fun _ _ _ h => h) (by rfl) (by intro x hx; go_simp; (first | done | exact rfl)) ?_
  simp only [List.set_cons_succ, List.set_cons_zero]
  refine take_val (i := 22) (v := .int .u64 (tn (x0))) (st_ups _ _) rfl rfl (by kernel_rfl) (fun _ _ _ h => h) (by rfl) (by intro x hx; go_simp; (first | done | exact rfl)) ?_
  simp only [List.set_cons_succ, List.set_cons_zero]
  refine take_val (i := 23) (v := .int .u64 (tn (x0 >>> (32#64).toNat))) (st_ups _ _) rfl rfl (by kernel_rfl) (fun _ _ _ h => h) (by rfl) (by intro x hx; have hy := tn_lo 32#64; go_simp; (first | done | exact shrUU x0 32#64 hy | exact congrArg _ (shrUU x0 32#64 hy) | (rw [shrUU x0 32#64 hy]; done) | (rw [shrUU x0 32#64 hy]; rfl))) ?_
  simp only [List.set_cons_succ, List.set_cons_zero]
  refine take_val (i := 24) (v := .bool (((x0 >>> (32#64).toNat) == 0#64))) (st_ups _ _) rfl rfl (by kernel_rfl) (fun _ _ _ h => h) (by rfl) (by intro x hx; go_simp; (first | done | exact eqUT (x0 >>> (32#64).toNat) 0#64 | exact congrArg _ (eqUT (x0 >>> (32#64).toNat) 0#64) | (rw [eqUT (x0 >>> (32#64).toNat) 0#64]; done) | (rw [eqUT (x0 >>> (32#64).toNat) 0#64]; rfl))) ?_
  simp only [List.set_cons_succ, List.set_cons_zero]
  refine take_val (i := 25) (v := .bool (((x0 >>> (32#64).toNat) == 0#64))) (st_ups _ _) rfl rfl (by kernel_rfl) (fun _ _ _ h => h) (by rfl) (by intro x hx; go_simp; (first | done | exact rfl)) ?_
  simp only [List.set_cons_succ, List.set_cons_zero]
  refine take_if (i := 26) (v := .int .u64 (tn (x1))) ((x0 >>> (32#64).toNat) == 0#64) (st_ups _ _) rfl rfl (by kernel_rfl) (fun _ _ _ _ h => h) (by generalize ((x0 >>> (32#64).toNat) == 0#64) = gg0; cases gg0 <;> rfl) (by intro hb; have hb11 := hid (show (((x0 >>> (32#64).toNat) == 0#64)) = true from hb); intro x hx; (try simp only [hb]); (try simp only [cond_true]); go_simp; (first | done | exact rfl)) ?_
  simp only [List.set_cons_succ, List.set_cons_zero]
  refine take_if (i := 27) (v := .int .u64 (tn (x1 >>> (32#64).toNat))) ((x0 >>> (32#64).toNat) == 0#64) (st_ups _ _) rfl rfl (by kernel_rfl) (fun _ _ _ _ h => h) (by generalize ((x0 >>> (32#64).toNat) == 0#64) = gg0; cases gg0 <;> rfl) (by intro hb; have hb12 := hid (show (((x0 >>> (32#64).toNat) == 0#64)) = true from hb); intro x hx; (try simp only [hb]); (try simp only [cond_true]); have hy := tn_lo 32#64; go_simp; (first | done | exact shrUU x1 32#64 hy | exact congrArg _ (shrUU x1 32#64 hy) | (rw [shrUU x1 32#64 hy]; done) | (rw [shrUU x1 32#64 hy]; rfl))) ?_
  simp only [List.set_cons_succ, List.set_cons_zero]
  refine take_if (i := 28) (v := .bool (((x1 >>> (32#64).toNat) == 0#64))) ((x0 >>> (32#64).toNat) == 0#64) (st_ups _ _) rfl rfl (by kernel_rfl) (fun _ _ _ _ h => h) (by generalize ((x0 >>> (32#64).toNat) == 0#64) = gg0; cases gg0 <;> rfl) (by intro hb; have hb13 := hid (show (((x0 >>> (32#64).toNat) == 0#64)) = true from hb); intro x hx; (try simp only [hb]); (try simp only [cond_true]); go_simp; (first | done | exact eqUT (x1 >>> (32#64).toNat) 0#64 | exact congrArg _ (eqUT (x1 >>> (32#64).toNat) 0#64) | (rw [eqUT (x1 >>> (32#64).toNat) 0#64]; done) | (rw [eqUT (x1 >>> (32#64).toNat) 0#64]; rfl))) ?_
  simp only [List.set_cons_succ, List.set_cons_zero]
  refine take_val (i := 29) (v := .bool ((bif ((x0 >>> (32#64).toNat) == 0#64) then ((x1 >>> (32#64).toNat) == 0#64) else false))) (st_ups _ _) rfl rfl (by kernel_rfl) (fun _ _ _ h => h) (by rfl) (by intro x hx; (cases hq : (((x0 >>> (32#64).toNat) == 0#64)) <;> first | rfl | (simp only [hq]; rfl) | simp [hq])) ?_
  simp only [List.set_cons_succ, List.set_cons_zero]
  refine take_val (i := 30) (v := .bool ((bif ((x0 >>> (32#64).toNat) == 0#64) then ((x1 >>> (32#64).toNat) == 0#64) else false))) (st_ups _ _) rfl rfl (by kernel_rfl) (fun _ _ _ h => h) (by rfl) (by intro x hx; go_simp; (first | done | exact rfl)) ?_
  simp only [List.set_cons_succ, List.set_cons_zero]
  refine take_if (i := 31) (v := .agg #[.int .u64 (tn (x0)), .int .u64 (tn (x0))]) (bif ((x0 >>> (32#64).toNat) == 0#64) then ((x1 >>> (32#64).toNat) == 0#64) else false) (st_ups _ _) rfl rfl (by kernel_rfl) (fun _ _ _ _ h => h) (by generalize (bif ((x0 >>> (32#64).toNat) == 0#64) then ((x1 >>> (32#64).toNat) == 0#64) else false) = gg0; cases gg0 <;> rfl) (by intro hb; have hb14 := hid (show ((bif ((x0 >>> (32#64).toNat) == 0#64) then ((x1 >>> (32#64).toNat) == 0#64) else false)) = true from hb); intro x hx; (try simp only [hb]); (try simp only [cond_true]); have f0 := hx.load 0 0 rfl rfl; have f1 := hx.load 0 1 rfl rfl; go_simp; (first | done | exact rfl)) ?_
  simp only [List.set_cons_succ, List.set_cons_zero]
  refine take_if (i := 32) (v := .agg #[.int .u64 (tn (x1)), .int .u64 (tn (x1))]) (bif ((x0 >>> (32#64).toNat) == 0#64) then ((x1 >>> (32#64).toNat) == 0#64) else false) (st_ups _ _) rfl rfl (by kernel_rfl) (fun _ _ _ _ h => h) (by generalize (bif ((x0 >>> (32#64).toNat) == 0#64) then ((x1 >>> (32#64).toNat) == 0#64) else false) = gg0; cases gg0 <;> rfl) (by intro hb; have hb15 := hid (show ((bif ((x0 >>> (32#64).toNat) == 0#64) then ((x1 >>> (32#64).toNat) == 0#64) else false)) = true from hb); intro x hx; (try simp only [hb]); (try simp only [cond_true]); have f0 := hx.load 1 0 rfl rfl; have f1 := hx.load 1 1 rfl rfl; go_simp; (first | done | exact rfl)) ?_
  simp only [List.set_cons_succ, List.set_cons_zero]
  refine take_if_call (i := 33) (f := 29) (args := #[.agg #[.int .u64 (tn (x0)), .int .u64 (tn (x0))], .agg #[.int .u64 (tn (x1)), .int .u64 (tn (x1))]]) (v := .agg #[.int .u64 (tn ((span_Mul (P.mk x0 x0) (P.mk x1 x1)).lo)), .int .u64 (tn ((span_Mul (P.mk x0 x0) (P.mk x1 x1)).hi))]) (bif ((x0 >>> (32#64).toNat) == 0#64) then ((x1 >>> (32#64).toNat) == 0#64) else false) (st_ups _ _) rfl rfl (by kernel_rfl) (fun _ _ _ _ h => h) (by generalize (bif ((x0 >>> (32#64).toNat) == 0#64) then ((x1 >>> (32#64).toNat) == 0#64) else false) = gg0; cases gg0 <;> rfl) (by intro hb; have hb16 := hid (show ((bif ((x0 >>> (32#64).toNat) == 0#64) then ((x1 >>> (32#64).toNat) == 0#64) else false)) = true from hb); intro x hx; (try simp only [hb]); (try simp only [cond_true]); kernel_rfl) (by intro hb; have hb16 := hid (show ((bif ((x0 >>> (32#64).toNat) == 0#64) then ((x1 >>> (32#64).toNat) == 0#64) else false)) = true from hb); intro x hx; exact span_Mul_any (P.mk x0 x0) (P.mk x1 x1) _) ?_
  simp only [List.set_cons_succ, List.set_cons_zero]
  refine take_if (i := 34) (v := .int .u64 (tn (x0))) (bif ((x0 >>> (32#64).toNat) == 0#64) then ((x1 >>> (32#64).toNat) == 0#64) else false) (st_ups _ _) rfl rfl (by kernel_rfl) (fun _ _ _ _ h => h) (by generalize (bif ((x0 >>> (32#64).toNat) == 0#64) then ((x1 >>> (32#64).toNat) == 0#64) else false) = gg0; cases gg0 <;> rfl) (by intro hb; have hb17 := hid (show ((bif ((x0 >>> (32#64).toNat) == 0#64) then ((x1 >>> (32#64).toNat) == 0#64) else false)) = true from hb); intro x hx; (try simp only [hb]); (try simp only [cond_true]); go_simp; (first | done | exact rfl)) ?_
  simp only [List.set_cons_succ, List.set_cons_zero]
  refine take_if (i := 35) (v := .int .u64 (tn (x1))) (bif ((x0 >>> (32#64).toNat) == 0#64) then ((x1 >>> (32#64).toNat) == 0#64) else false) (st_ups _ _) rfl rfl (by kernel_rfl) (fun _ _ _ _ h => h) (by generalize (bif ((x0 >>> (32#64).toNat) == 0#64) then ((x1 >>> (32#64).toNat) == 0#64) else false) = gg0; cases gg0 <;> rfl) (by intro hb; have hb18 := hid (show ((bif ((x0 >>> (32#64).toNat) == 0#64) then ((x1 >>> (32#64).toNat) == 0#64) else false)) = true from hb); intro x hx; (try simp only [hb]); (try simp only [cond_true]); go_simp; (first | done | exact rfl)) ?_
  simp only [List.set_cons_succ, List.set_cons_zero]
  refine take_if (i := 36) (v := .int .u64 (tn (x0 * x1))) (bif ((x0 >>> (32#64).toNat) == 0#64) then ((x1 >>> (32#64).toNat) == 0#64) else false) (st_ups _ _) rfl rfl (by kernel_rfl) (fun _ _ _ _ h => h) (by generalize (bif ((x0 >>> (32#64).toNat) == 0#64) then ((x1 >>> (32#64).toNat) == 0#64) else false) = gg0; cases gg0 <;> rfl) (by intro hb; have hb19 := hid (show ((bif ((x0 >>> (32#64).toNat) == 0#64) then ((x1 >>> (32#64).toNat) == 0#64) else false)) = true from hb); intro x hx; (try simp only [hb]); (try simp only [cond_true]); go_simp; (first | done | exact mulUT x0 x1 | exact congrArg _ (mulUT x0 x1) | (rw [mulUT x0 x1]; done) | (rw [mulUT x0 x1]; rfl))) ?_
  simp only [List.set_cons_succ, List.set_cons_zero]
  refine take_if_call (i := 37) (f := 15) (args := #[.int .u64 (tn (x0 * x1))]) (v := .agg #[.int .u64 (tn (x0 * x1)), .int .u64 (tn (x0 * x1))]) (bif ((x0 >>> (32#64).toNat) == 0#64) then ((x1 >>> (32#64).toNat) == 0#64) else false) (st_ups _ _) rfl rfl (by kernel_rfl) (fun _ _ _ _ h => h) (by generalize (bif ((x0 >>> (32#64).toNat) == 0#64) then ((x1 >>> (32#64).toNat) == 0#64) else false) = gg0; cases gg0 <;> rfl) (by intro hb; have hb20 := hid (show ((bif ((x0 >>> (32#64).toNat) == 0#64) then ((x1 >>> (32#64).toNat) == 0#64) else false)) = true from hb); intro x hx; (try simp only [hb]); (try simp only [cond_true]); kernel_rfl) (by intro hb; have hb20 := hid (show ((bif ((x0 >>> (32#64).toNat) == 0#64) then ((x1 >>> (32#64).toNat) == 0#64) else false)) = true from hb); intro x hx; exact span_Of_any (x0 * x1) _) ?_
  simp only [List.set_cons_succ, List.set_cons_zero]
  refine take_if (i := 38) (v := .bool false) (bif ((x0 >>> (32#64).toNat) == 0#64) then ((x1 >>> (32#64).toNat) == 0#64) else false) (st_ups _ _) rfl rfl (by kernel_rfl) (fun _ _ _ _ h => h) (by generalize (bif ((x0 >>> (32#64).toNat) == 0#64) then ((x1 >>> (32#64).toNat) == 0#64) else false) = gg0; cases gg0 <;> rfl) (by intro hb; have hb21 := hid (show ((bif ((x0 >>> (32#64).toNat) == 0#64) then ((x1 >>> (32#64).toNat) == 0#64) else false)) = true from hb); intro x hx; (try simp only [hb]); (try simp only [cond_true]); go_simp; (first | done | exact (eqPT (fun b => Result.ok (Next.value (Value.bool (!b))) x) ((span_Mul (P.mk x0 x0) (P.mk x1 x1)).lo) ((span_Mul (P.mk x0 x0) (P.mk x1 x1)).hi) (x0 * x1) (x0 * x1)).trans (congrArg (fun b => Result.ok (Next.value (Value.bool (!b))) x) (eqP_of (alone_mul32 x0 x1 (bt1 hb21.out) (bt2 hb21.out)))))) ?_
  simp only [List.set_cons_succ, List.set_cons_zero]
  refine take_val (i := 39) (v := .bool false) (st_ups _ _) rfl rfl (by kernel_rfl) (fun _ _ _ h => h) (by rfl) (by intro x hx; (cases hq : ((bif ((x0 >>> (32#64).toNat) == 0#64) then ((x1 >>> (32#64).toNat) == 0#64) else false)) <;> first | rfl | (simp only [hq]; rfl) | simp [hq])) ?_
  simp only [List.set_cons_succ, List.set_cons_zero]
  refine take_val (i := 40) (v := .bool false) (st_ups _ _) rfl rfl (by kernel_rfl) (fun _ _ _ h => h) (by rfl) (by intro x hx; go_simp; (first | done | exact rfl)) ?_
  simp only [List.set_cons_succ, List.set_cons_zero]
  refine take_val (i := 41) (v := .bool false) (st_ups _ _) rfl rfl (by kernel_rfl) (fun _ _ _ h => h) (by rfl) (by intro x hx; go_simp; (first | done | exact rfl)) ?_
  simp only [List.set_cons_succ, List.set_cons_zero]
  refine take_val (i := 42) (v := .int .u64 (tn (x0))) (st_ups _ _) rfl rfl (by kernel_rfl) (fun _ _ _ h => h) (by rfl) (by intro x hx; go_simp; (first | done | exact rfl)) ?_
  simp only [List.set_cons_succ, List.set_cons_zero]
  refine take_val (i := 43) (v := .int .u64 (tn (x2 % 64#64))) (st_ups _ _) rfl rfl (by kernel_rfl) (fun _ _ _ h => h) (by rfl) (by intro x hx; go_simp; (first | done | exact rfl)) ?_
  simp only [List.set_cons_succ, List.set_cons_zero]
  refine take_val (i := 44) (v := .int .u64 (tn (x0 <<< (x2 % 64#64).toNat))) (st_ups _ _) rfl rfl (by kernel_rfl) (fun _ _ _ h => h) (by rfl) (by intro x hx; have hy := tn_lo (x2 % 64#64); go_simp; (first | done | exact shl1U (x2 % 64#64) hy | exact shlUUr x0 (x2 % 64#64) hy | exact shlUU x0 (x2 % 64#64) hy | exact congrArg _ (shlUU x0 (x2 % 64#64) hy) | (rw [shlUU x0 (x2 % 64#64) hy]; done) | (rw [shlUU x0 (x2 % 64#64) hy]; rfl))) ?_
  simp only [List.set_cons_succ, List.set_cons_zero]
  refine take_val (i := 45) (v := .int .u64 (tn (x2 % 64#64))) (st_ups _ _) rfl rfl (by kernel_rfl) (fun _ _ _ h => h) (by rfl) (by intro x hx; go_simp; (first | done | exact rfl)) ?_
  simp only [List.set_cons_succ, List.set_cons_zero]
  refine take_val (i := 46) (v := .int .u64 (tn ((x0 <<< (x2 % 64#64).toNat) >>> (x2 % 64#64).toNat))) (st_ups _ _) rfl rfl (by kernel_rfl) (fun _ _ _ h => h) (by rfl) (by intro x hx; have hy := tn_lo (x2 % 64#64); go_simp; (first | done | exact shrUU (x0 <<< (x2 % 64#64).toNat) (x2 % 64#64) hy | exact congrArg _ (shrUU (x0 <<< (x2 % 64#64).toNat) (x2 % 64#64) hy) | (rw [shrUU (x0 <<< (x2 % 64#64).toNat) (x2 % 64#64) hy]; done) | (rw [shrUU (x0 <<< (x2 % 64#64).toNat) (x2 % 64#64) hy]; rfl))) ?_
  simp only [List.set_cons_succ, List.set_cons_zero]
  refine take_val (i := 47) (v := .int .u64 (tn (x0))) (st_ups _ _) rfl rfl (by kernel_rfl) (fun _ _ _ h => h) (by rfl) (by intro x hx; go_simp; (first | done | exact rfl)) ?_
  simp only [List.set_cons_succ, List.set_cons_zero]
  refine take_val (i := 48) (v := .bool ((((x0 <<< (x2 % 64#64).toNat) >>> (x2 % 64#64).toNat) == x0))) (st_ups _ _) rfl rfl (by kernel_rfl) (fun _ _ _ h => h) (by rfl) (by intro x hx; go_simp; (first | done | exact eqUT ((x0 <<< (x2 % 64#64).toNat) >>> (x2 % 64#64).toNat) x0 | exact congrArg _ (eqUT ((x0 <<< (x2 % 64#64).toNat) >>> (x2 % 64#64).toNat) x0) | (rw [eqUT ((x0 <<< (x2 % 64#64).toNat) >>> (x2 % 64#64).toNat) x0]; done) | (rw [eqUT ((x0 <<< (x2 % 64#64).toNat) >>> (x2 % 64#64).toNat) x0]; rfl))) ?_
  simp only [List.set_cons_succ, List.set_cons_zero]
  refine take_val (i := 49) (v := .bool ((((x0 <<< (x2 % 64#64).toNat) >>> (x2 % 64#64).toNat) == x0))) (st_ups _ _) rfl rfl (by kernel_rfl) (fun _ _ _ h => h) (by rfl) (by intro x hx; go_simp; (first | done | exact rfl)) ?_
  simp only [List.set_cons_succ, List.set_cons_zero]
  refine take_if (i := 50) (v := .agg #[.int .u64 (tn (x0)), .int .u64 (tn (x0))]) (((x0 <<< (x2 % 64#64).toNat) >>> (x2 % 64#64).toNat) == x0) (st_ups _ _) rfl rfl (by kernel_rfl) (fun _ _ _ _ h => h) (by generalize (((x0 <<< (x2 % 64#64).toNat) >>> (x2 % 64#64).toNat) == x0) = gg0; cases gg0 <;> rfl) (by intro hb; have hb22 := hid (show ((((x0 <<< (x2 % 64#64).toNat) >>> (x2 % 64#64).toNat) == x0)) = true from hb); intro x hx; (try simp only [hb]); (try simp only [cond_true]); have f0 := hx.load 0 0 rfl rfl; have f1 := hx.load 0 1 rfl rfl; go_simp; (first | done | exact rfl)) ?_
  simp only [List.set_cons_succ, List.set_cons_zero]
  refine take_if (i := 51) (v := .int .i64 (ti (x2))) (((x0 <<< (x2 % 64#64).toNat) >>> (x2 % 64#64).toNat) == x0) (st_ups _ _) rfl rfl (by kernel_rfl) (fun _ _ _ _ h => h) (by generalize (((x0 <<< (x2 % 64#64).toNat) >>> (x2 % 64#64).toNat) == x0) = gg0; cases gg0 <;> rfl) (by intro hb; have hb23 := hid (show ((((x0 <<< (x2 % 64#64).toNat) >>> (x2 % 64#64).toNat) == x0)) = true from hb); intro x hx; (try simp only [hb]); (try simp only [cond_true]); go_simp; (first | done | exact rfl)) ?_
  simp only [List.set_cons_succ, List.set_cons_zero]
  refine take_if_call (i := 52) (f := 41) (args := #[.agg #[.int .u64 (tn (x0)), .int .u64 (tn (x0))], .int .i64 (ti (x2))]) (v := .agg #[.int .u64 (tn ((span_Mul (P.mk x0 x0) (P.mk (1#64 <<< (x2 % 64#64).toNat) (1#64 <<< (x2 % 64#64).toNat))).lo)), .int .u64 (tn ((span_Mul (P.mk x0 x0) (P.mk (1#64 <<< (x2 % 64#64).toNat) (1#64 <<< (x2 % 64#64).toNat))).hi))]) (((x0 <<< (x2 % 64#64).toNat) >>> (x2 % 64#64).toNat) == x0) (st_ups _ _) rfl rfl (by kernel_rfl) (fun _ _ _ _ h => h) (by generalize (((x0 <<< (x2 % 64#64).toNat) >>> (x2 % 64#64).toNat) == x0) = gg0; cases gg0 <;> rfl) (by intro hb; have hb24 := hid (show ((((x0 <<< (x2 % 64#64).toNat) >>> (x2 % 64#64).toNat) == x0)) = true from hb); intro x hx; (try simp only [hb]); (try simp only [cond_true]); kernel_rfl) (by intro hb; have hb24 := hid (show ((((x0 <<< (x2 % 64#64).toNat) >>> (x2 % 64#64).toNat) == x0)) = true from hb); intro x hx; exact span_Lsh_any (P.mk x0 x0) x2 _) ?_
  simp only [List.set_cons_succ, List.set_cons_zero]
  refine take_if (i := 53) (v := .int .u64 (tn (x0))) (((x0 <<< (x2 % 64#64).toNat) >>> (x2 % 64#64).toNat) == x0) (st_ups _ _) rfl rfl (by kernel_rfl) (fun _ _ _ _ h => h) (by generalize (((x0 <<< (x2 % 64#64).toNat) >>> (x2 % 64#64).toNat) == x0) = gg0; cases gg0 <;> rfl) (by intro hb; have hb25 := hid (show ((((x0 <<< (x2 % 64#64).toNat) >>> (x2 % 64#64).toNat) == x0)) = true from hb); intro x hx; (try simp only [hb]); (try simp only [cond_true]); go_simp; (first | done | exact rfl)) ?_
  simp only [List.set_cons_succ, List.set_cons_zero]
  refine take_if (i := 54) (v := .int .u64 (tn (x2 % 64#64))) (((x0 <<< (x2 % 64#64).toNat) >>> (x2 % 64#64).toNat) == x0) (st_ups _ _) rfl rfl (by kernel_rfl) (fun _ _ _ _ h => h) (by generalize (((x0 <<< (x2 % 64#64).toNat) >>> (x2 % 64#64).toNat) == x0) = gg0; cases gg0 <;> rfl) (by intro hb; have hb26 := hid (show ((((x0 <<< (x2 % 64#64).toNat) >>> (x2 % 64#64).toNat) == x0)) = true from hb); intro x hx; (try simp only [hb]); (try simp only [cond_true]); go_simp; (first | done | exact rfl)) ?_
  simp only [List.set_cons_succ, List.set_cons_zero]
  refine take_if (i := 55) (v := .int .u64 (tn (x0 <<< (x2 % 64#64).toNat))) (((x0 <<< (x2 % 64#64).toNat) >>> (x2 % 64#64).toNat) == x0) (st_ups _ _) rfl rfl (by kernel_rfl) (fun _ _ _ _ h => h) (by generalize (((x0 <<< (x2 % 64#64).toNat) >>> (x2 % 64#64).toNat) == x0) = gg0; cases gg0 <;> rfl) (by intro hb; have hb27 := hid (show ((((x0 <<< (x2 % 64#64).toNat) >>> (x2 % 64#64).toNat) == x0)) = true from hb); intro x hx; (try simp only [hb]); (try simp only [cond_true]); have hy := tn_lo (x2 % 64#64); go_simp; (first | done | exact shl1U (x2 % 64#64) hy | exact shlUUr x0 (x2 % 64#64) hy | exact shlUU x0 (x2 % 64#64) hy | exact congrArg _ (shlUU x0 (x2 % 64#64) hy) | (rw [shlUU x0 (x2 % 64#64) hy]; done) | (rw [shlUU x0 (x2 % 64#64) hy]; rfl))) ?_
  simp only [List.set_cons_succ, List.set_cons_zero]
  refine take_if_call (i := 56) (f := 15) (args := #[.int .u64 (tn (x0 <<< (x2 % 64#64).toNat))]) (v := .agg #[.int .u64 (tn (x0 <<< (x2 % 64#64).toNat)), .int .u64 (tn (x0 <<< (x2 % 64#64).toNat))]) (((x0 <<< (x2 % 64#64).toNat) >>> (x2 % 64#64).toNat) == x0) (st_ups _ _) rfl rfl (by kernel_rfl) (fun _ _ _ _ h => h) (by generalize (((x0 <<< (x2 % 64#64).toNat) >>> (x2 % 64#64).toNat) == x0) = gg0; cases gg0 <;> rfl) (by intro hb; have hb28 := hid (show ((((x0 <<< (x2 % 64#64).toNat) >>> (x2 % 64#64).toNat) == x0)) = true from hb); intro x hx; (try simp only [hb]); (try simp only [cond_true]); kernel_rfl) (by intro hb; have hb28 := hid (show ((((x0 <<< (x2 % 64#64).toNat) >>> (x2 % 64#64).toNat) == x0)) = true from hb); intro x hx; exact span_Of_any (x0 <<< (x2 % 64#64).toNat) _) ?_
  simp only [List.set_cons_succ, List.set_cons_zero]
  refine take_if (i := 57) (v := .bool false) (((x0 <<< (x2 % 64#64).toNat) >>> (x2 % 64#64).toNat) == x0) (st_ups _ _) rfl rfl (by kernel_rfl) (fun _ _ _ _ h => h) (by generalize (((x0 <<< (x2 % 64#64).toNat) >>> (x2 % 64#64).toNat) == x0) = gg0; cases gg0 <;> rfl) (by intro hb; have hb29 := hid (show ((((x0 <<< (x2 % 64#64).toNat) >>> (x2 % 64#64).toNat) == x0)) = true from hb); intro x hx; (try simp only [hb]); (try simp only [cond_true]); go_simp; (first | done | exact (eqPT (fun b => Result.ok (Next.value (Value.bool (!b))) x) ((span_Mul (P.mk x0 x0) (P.mk (1#64 <<< (x2 % 64#64).toNat) (1#64 <<< (x2 % 64#64).toNat))).lo) ((span_Mul (P.mk x0 x0) (P.mk (1#64 <<< (x2 % 64#64).toNat) (1#64 <<< (x2 % 64#64).toNat))).hi) (x0 <<< (x2 % 64#64).toNat) (x0 <<< (x2 % 64#64).toNat)).trans (congrArg (fun b => Result.ok (Next.value (Value.bool (!b))) x) (eqP_of (alone_lsh x0 _ (mod64_lt x2) hb29.out))))) ?_
  simp only [List.set_cons_succ, List.set_cons_zero]
  refine take_val (i := 58) (v := .bool false) (st_ups _ _) rfl rfl (by kernel_rfl) (fun _ _ _ h => h) (by rfl) (by intro x hx; (cases hq : ((((x0 <<< (x2 % 64#64).toNat) >>> (x2 % 64#64).toNat) == x0)) <;> first | rfl | (simp only [hq]; rfl) | simp [hq])) ?_
  simp only [List.set_cons_succ, List.set_cons_zero]
  refine take_val (i := 59) (v := .bool false) (st_ups _ _) rfl rfl (by kernel_rfl) (fun _ _ _ h => h) (by rfl) (by intro x hx; go_simp; (first | done | exact rfl)) ?_
  simp only [List.set_cons_succ, List.set_cons_zero]
  refine take_done (by kernel_rfl) ?_ _
  intro W7 hx
  replace HS := hid hx
  clear hx
  -- region 10
  go_upto_region 10 with fail
  refine lin_begin (St w [⟨k1, [some (.int .u64 (tn (x0))), some (.int .u64 (tn (x0)))], 24⟩, ⟨k2, [some (.int .u64 (tn (x1))), some (.int .u64 (tn (x1)))], 24⟩]) rfl HS.out ?_
  refine lin_val (i := 0) (v := .int .i64 (ti (x0))) rfl rfl (by rfl) (by intro x hx; go_simp; (first | done | exact rfl)) ?_
  simp only [List.set_cons_succ, List.set_cons_zero]
  refine lin_val (i := 1) (v := .int .i64 (ti (BitVec.sshiftRight x0 (62#64).toNat))) rfl rfl (by rfl) (by intro x hx; have hy := tn_lo 62#64; go_simp; (first | done | exact shrIU x0 62#64 hy | exact congrArg _ (shrIU x0 62#64 hy) | (rw [shrIU x0 62#64 hy]; done) | (rw [shrIU x0 62#64 hy]; rfl))) ?_
  simp only [List.set_cons_succ, List.set_cons_zero]
  refine lin_val (i := 2) (v := .int .i64 (ti (x0))) rfl rfl (by rfl) (by intro x hx; go_simp; (first | done | exact rfl)) ?_
  simp only [List.set_cons_succ, List.set_cons_zero]
  refine lin_val (i := 3) (v := .int .i64 (ti (BitVec.sshiftRight x0 (63#64).toNat))) rfl rfl (by rfl) (by intro x hx; have hy := tn_lo 63#64; go_simp; (first | done | exact shrIU x0 63#64 hy | exact congrArg _ (shrIU x0 63#64 hy) | (rw [shrIU x0 63#64 hy]; done) | (rw [shrIU x0 63#64 hy]; rfl))) ?_
  simp only [List.set_cons_succ, List.set_cons_zero]
  refine lin_val (i := 4) (v := .bool (((BitVec.sshiftRight x0 (62#64).toNat) == (BitVec.sshiftRight x0 (63#64).toNat)))) rfl rfl (by rfl) (by intro x hx; go_simp; (first | done | exact eqIT (BitVec.sshiftRight x0 (62#64).toNat) (BitVec.sshiftRight x0 (63#64).toNat) | exact congrArg _ (eqIT (BitVec.sshiftRight x0 (62#64).toNat) (BitVec.sshiftRight x0 (63#64).toNat)) | (rw [eqIT (BitVec.sshiftRight x0 (62#64).toNat) (BitVec.sshiftRight x0 (63#64).toNat)]; done) | (rw [eqIT (BitVec.sshiftRight x0 (62#64).toNat) (BitVec.sshiftRight x0 (63#64).toNat)]; rfl))) ?_
  simp only [List.set_cons_succ, List.set_cons_zero]
  refine lin_val (i := 5) (v := .bool (((BitVec.sshiftRight x0 (62#64).toNat) == (BitVec.sshiftRight x0 (63#64).toNat)))) rfl rfl (by rfl) (by intro x hx; go_simp; (first | done | exact rfl)) ?_
  simp only [List.set_cons_succ, List.set_cons_zero]
  refine lin_if (i := 6) (v := .int .i64 (ti (x1))) ((BitVec.sshiftRight x0 (62#64).toNat) == (BitVec.sshiftRight x0 (63#64).toNat)) rfl rfl (by generalize ((BitVec.sshiftRight x0 (62#64).toNat) == (BitVec.sshiftRight x0 (63#64).toNat)) = gg0; cases gg0 <;> rfl) (by intro hb; have hb30 := hid (show (((BitVec.sshiftRight x0 (62#64).toNat) == (BitVec.sshiftRight x0 (63#64).toNat))) = true from hb); intro x hx; (try simp only [hb]); (try simp only [cond_true]); go_simp; (first | done | exact rfl)) ?_
  simp only [List.set_cons_succ, List.set_cons_zero]
  refine lin_if (i := 7) (v := .int .i64 (ti (BitVec.sshiftRight x1 (62#64).toNat))) ((BitVec.sshiftRight x0 (62#64).toNat) == (BitVec.sshiftRight x0 (63#64).toNat)) rfl rfl (by generalize ((BitVec.sshiftRight x0 (62#64).toNat) == (BitVec.sshiftRight x0 (63#64).toNat)) = gg0; cases gg0 <;> rfl) (by intro hb; have hb31 := hid (show (((BitVec.sshiftRight x0 (62#64).toNat) == (BitVec.sshiftRight x0 (63#64).toNat))) = true from hb); intro x hx; (try simp only [hb]); (try simp only [cond_true]); have hy := tn_lo 62#64; go_simp; (first | done | exact shrIU x1 62#64 hy | exact congrArg _ (shrIU x1 62#64 hy) | (rw [shrIU x1 62#64 hy]; done) | (rw [shrIU x1 62#64 hy]; rfl))) ?_
  simp only [List.set_cons_succ, List.set_cons_zero]
  refine lin_if (i := 8) (v := .int .i64 (ti (x1))) ((BitVec.sshiftRight x0 (62#64).toNat) == (BitVec.sshiftRight x0 (63#64).toNat)) rfl rfl (by generalize ((BitVec.sshiftRight x0 (62#64).toNat) == (BitVec.sshiftRight x0 (63#64).toNat)) = gg0; cases gg0 <;> rfl) (by intro hb; have hb32 := hid (show (((BitVec.sshiftRight x0 (62#64).toNat) == (BitVec.sshiftRight x0 (63#64).toNat))) = true from hb); intro x hx; (try simp only [hb]); (try simp only [cond_true]); go_simp; (first | done | exact rfl)) ?_
  simp only [List.set_cons_succ, List.set_cons_zero]
  refine lin_if (i := 9) (v := .int .i64 (ti (BitVec.sshiftRight x1 (63#64).toNat))) ((BitVec.sshiftRight x0 (62#64).toNat) == (BitVec.sshiftRight x0 (63#64).toNat)) rfl rfl (by generalize ((BitVec.sshiftRight x0 (62#64).toNat) == (BitVec.sshiftRight x0 (63#64).toNat)) = gg0; cases gg0 <;> rfl) (by intro hb; have hb33 := hid (show (((BitVec.sshiftRight x0 (62#64).toNat) == (BitVec.sshiftRight x0 (63#64).toNat))) = true from hb); intro x hx; (try simp only [hb]); (try simp only [cond_true]); have hy := tn_lo 63#64; go_simp; (first | done | exact shrIU x1 63#64 hy | exact congrArg _ (shrIU x1 63#64 hy) | (rw [shrIU x1 63#64 hy]; done) | (rw [shrIU x1 63#64 hy]; rfl))) ?_
  simp only [List.set_cons_succ, List.set_cons_zero]
  refine lin_if (i := 10) (v := .bool (((BitVec.sshiftRight x1 (62#64).toNat) == (BitVec.sshiftRight x1 (63#64).toNat)))) ((BitVec.sshiftRight x0 (62#64).toNat) == (BitVec.sshiftRight x0 (63#64).toNat)) rfl rfl (by generalize ((BitVec.sshiftRight x0 (62#64).toNat) == (BitVec.sshiftRight x0 (63#64).toNat)) = gg0; cases gg0 <;> rfl) (by intro hb; have hb34 := hid (show (((BitVec.sshiftRight x0 (62#64).toNat) == (BitVec.sshiftRight x0 (63#64).toNat))) = true from hb); intro x hx; (try simp only [hb]); (try simp only [cond_true]); go_simp; (first | done | exact eqIT (BitVec.sshiftRight x1 (62#64).toNat) (BitVec.sshiftRight x1 (63#64).toNat) | exact congrArg _ (eqIT (BitVec.sshiftRight x1 (62#64).toNat) (BitVec.sshiftRight x1 (63#64).toNat)) | (rw [eqIT (BitVec.sshiftRight x1 (62#64).toNat) (BitVec.sshiftRight x1 (63#64).toNat)]; done) | (rw [eqIT (BitVec.sshiftRight x1 (62#64).toNat) (BitVec.sshiftRight x1 (63#64).toNat)]; rfl))) ?_
  simp only [List.set_cons_succ, List.set_cons_zero]
  refine lin_val (i := 11) (v := .bool ((bif ((BitVec.sshiftRight x0 (62#64).toNat) == (BitVec.sshiftRight x0 (63#64).toNat)) then ((BitVec.sshiftRight x1 (62#64).toNat) == (BitVec.sshiftRight x1 (63#64).toNat)) else false))) rfl rfl (by rfl) (by intro x hx; (cases hq : (((BitVec.sshiftRight x0 (62#64).toNat) == (BitVec.sshiftRight x0 (63#64).toNat))) <;> first | rfl | (simp only [hq]; rfl) | simp [hq])) ?_
  simp only [List.set_cons_succ, List.set_cons_zero]
  refine lin_val (i := 12) (v := .bool ((bif ((BitVec.sshiftRight x0 (62#64).toNat) == (BitVec.sshiftRight x0 (63#64).toNat)) then ((BitVec.sshiftRight x1 (62#64).toNat) == (BitVec.sshiftRight x1 (63#64).toNat)) else false))) rfl rfl (by rfl) (by intro x hx; go_simp; (first | done | exact rfl)) ?_
  simp only [List.set_cons_succ, List.set_cons_zero]
  refine lin_done ?_
  intro W8 hx
  replace HS := hid hx
  clear hx
  -- region 11
  go_upto_region 11 with fail
  refine lin_begin (St w [⟨k1, [some (.int .u64 (tn (x0))), some (.int .u64 (tn (x0)))], 24⟩, ⟨k2, [some (.int .u64 (tn (x1))), some (.int .u64 (tn (x1)))], 24⟩]) rfl HS.out ?_
  refine lin_val (i := 0) (v := .bool ((bif ((BitVec.sshiftRight x0 (62#64).toNat) == (BitVec.sshiftRight x0 (63#64).toNat)) then ((BitVec.sshiftRight x1 (62#64).toNat) == (BitVec.sshiftRight x1 (63#64).toNat)) else false))) rfl rfl (by rfl) (by intro x hx; go_simp; (first | done | exact rfl)) ?_
  simp only [List.set_cons_succ, List.set_cons_zero]
  refine lin_val (i := 1) (v := .bool ((!(bif ((BitVec.sshiftRight x0 (62#64).toNat) == (BitVec.sshiftRight x0 (63#64).toNat)) then ((BitVec.sshiftRight x1 (62#64).toNat) == (BitVec.sshiftRight x1 (63#64).toNat)) else false)))) rfl rfl (by rfl) (by intro x hx; go_simp; (first | done | exact rfl)) ?_
  simp only [List.set_cons_succ, List.set_cons_zero]
  refine lin_val (i := 2) (v := .bool ((!(bif ((BitVec.sshiftRight x0 (62#64).toNat) == (BitVec.sshiftRight x0 (63#64).toNat)) then ((BitVec.sshiftRight x1 (62#64).toNat) == (BitVec.sshiftRight x1 (63#64).toNat)) else false)))) rfl rfl (by rfl) (by intro x hx; go_simp; (first | done | exact rfl)) ?_
  simp only [List.set_cons_succ, List.set_cons_zero]
  refine lin_if (i := 3) (v := .int .i64 (ti (x0))) (!(!(bif ((BitVec.sshiftRight x0 (62#64).toNat) == (BitVec.sshiftRight x0 (63#64).toNat)) then ((BitVec.sshiftRight x1 (62#64).toNat) == (BitVec.sshiftRight x1 (63#64).toNat)) else false))) rfl rfl (by generalize (!(bif ((BitVec.sshiftRight x0 (62#64).toNat) == (BitVec.sshiftRight x0 (63#64).toNat)) then ((BitVec.sshiftRight x1 (62#64).toNat) == (BitVec.sshiftRight x1 (63#64).toNat)) else false)) = gg0; cases gg0 <;> rfl) (by intro hb; have hb35 := hid (show ((!(bif ((BitVec.sshiftRight x0 (62#64).toNat) == (BitVec.sshiftRight x0 (63#64).toNat)) then ((BitVec.sshiftRight x1 (62#64).toNat) == (BitVec.sshiftRight x1 (63#64).toNat)) else false))) = false from nnb hb); intro x hx; (try simp only [hb]); (try simp only [cond_true]); go_simp; (first | done | exact rfl)) ?_
  simp only [List.set_cons_succ, List.set_cons_zero]
  refine lin_if_call (i := 4) (f := 50) (args := #[.int .i64 (ti (x0))]) (v := .agg #[.int .i64 (ti (x0)), .int .i64 (ti (x0))]) (!(!(bif ((BitVec.sshiftRight x0 (62#64).toNat) == (BitVec.sshiftRight x0 (63#64).toNat)) then ((BitVec.sshiftRight x1 (62#64).toNat) == (BitVec.sshiftRight x1 (63#64).toNat)) else false))) (st_ups _ _) rfl rfl (by generalize (!(bif ((BitVec.sshiftRight x0 (62#64).toNat) == (BitVec.sshiftRight x0 (63#64).toNat)) then ((BitVec.sshiftRight x1 (62#64).toNat) == (BitVec.sshiftRight x1 (63#64).toNat)) else false)) = gg0; cases gg0 <;> rfl) (by intro hb; have hb36 := hid (show ((!(bif ((BitVec.sshiftRight x0 (62#64).toNat) == (BitVec.sshiftRight x0 (63#64).toNat)) then ((BitVec.sshiftRight x1 (62#64).toNat) == (BitVec.sshiftRight x1 (63#64).toNat)) else false))) = false from nnb hb); intro x hx; (try simp only [hb]); (try simp only [cond_true]); kernel_rfl) (by intro hb; have hb36 := hid (show ((!(bif ((BitVec.sshiftRight x0 (62#64).toNat) == (BitVec.sshiftRight x0 (63#64).toNat)) then ((BitVec.sshiftRight x1 (62#64).toNat) == (BitVec.sshiftRight x1 (63#64).toNat)) else false))) = false from nnb hb); intro x hx; exact span_Sof_any x0 _) ?_
  simp only [List.set_cons_succ, List.set_cons_zero]
  refine lin_if (i := 5) (v := .int .i64 (ti (x1))) (!(!(bif ((BitVec.sshiftRight x0 (62#64).toNat) == (BitVec.sshiftRight x0 (63#64).toNat)) then ((BitVec.sshiftRight x1 (62#64).toNat) == (BitVec.sshiftRight x1 (63#64).toNat)) else false))) rfl rfl (by generalize (!(bif ((BitVec.sshiftRight x0 (62#64).toNat) == (BitVec.sshiftRight x0 (63#64).toNat)) then ((BitVec.sshiftRight x1 (62#64).toNat) == (BitVec.sshiftRight x1 (63#64).toNat)) else false)) = gg0; cases gg0 <;> rfl) (by intro hb; have hb37 := hid (show ((!(bif ((BitVec.sshiftRight x0 (62#64).toNat) == (BitVec.sshiftRight x0 (63#64).toNat)) then ((BitVec.sshiftRight x1 (62#64).toNat) == (BitVec.sshiftRight x1 (63#64).toNat)) else false))) = false from nnb hb); intro x hx; (try simp only [hb]); (try simp only [cond_true]); go_simp; (first | done | exact rfl)) ?_
  simp only [List.set_cons_succ, List.set_cons_zero]
  refine lin_if_call (i := 6) (f := 50) (args := #[.int .i64 (ti (x1))]) (v := .agg #[.int .i64 (ti (x1)), .int .i64 (ti (x1))]) (!(!(bif ((BitVec.sshiftRight x0 (62#64).toNat) == (BitVec.sshiftRight x0 (63#64).toNat)) then ((BitVec.sshiftRight x1 (62#64).toNat) == (BitVec.sshiftRight x1 (63#64).toNat)) else false))) (st_ups _ _) rfl rfl (by generalize (!(bif ((BitVec.sshiftRight x0 (62#64).toNat) == (BitVec.sshiftRight x0 (63#64).toNat)) then ((BitVec.sshiftRight x1 (62#64).toNat) == (BitVec.sshiftRight x1 (63#64).toNat)) else false)) = gg0; cases gg0 <;> rfl) (by intro hb; have hb38 := hid (show ((!(bif ((BitVec.sshiftRight x0 (62#64).toNat) == (BitVec.sshiftRight x0 (63#64).toNat)) then ((BitVec.sshiftRight x1 (62#64).toNat) == (BitVec.sshiftRight x1 (63#64).toNat)) else false))) = false from nnb hb); intro x hx; (try simp only [hb]); (try simp only [cond_true]); kernel_rfl) (by intro hb; have hb38 := hid (show ((!(bif ((BitVec.sshiftRight x0 (62#64).toNat) == (BitVec.sshiftRight x0 (63#64).toNat)) then ((BitVec.sshiftRight x1 (62#64).toNat) == (BitVec.sshiftRight x1 (63#64).toNat)) else false))) = false from nnb hb); intro x hx; exact span_Sof_any x1 _) ?_
  simp only [List.set_cons_succ, List.set_cons_zero]
  refine lin_if_call (i := 7) (f := 60) (args := #[.agg #[.int .i64 (ti (x0)), .int .i64 (ti (x0))], .agg #[.int .i64 (ti (x1)), .int .i64 (ti (x1))]]) (v := .agg #[.int .i64 (ti ((span_Sadd (P.mk x0 x0) (P.mk x1 x1)).lo)), .int .i64 (ti ((span_Sadd (P.mk x0 x0) (P.mk x1 x1)).hi))]) (!(!(bif ((BitVec.sshiftRight x0 (62#64).toNat) == (BitVec.sshiftRight x0 (63#64).toNat)) then ((BitVec.sshiftRight x1 (62#64).toNat) == (BitVec.sshiftRight x1 (63#64).toNat)) else false))) (st_ups _ _) rfl rfl (by generalize (!(bif ((BitVec.sshiftRight x0 (62#64).toNat) == (BitVec.sshiftRight x0 (63#64).toNat)) then ((BitVec.sshiftRight x1 (62#64).toNat) == (BitVec.sshiftRight x1 (63#64).toNat)) else false)) = gg0; cases gg0 <;> rfl) (by intro hb; have hb39 := hid (show ((!(bif ((BitVec.sshiftRight x0 (62#64).toNat) == (BitVec.sshiftRight x0 (63#64).toNat)) then ((BitVec.sshiftRight x1 (62#64).toNat) == (BitVec.sshiftRight x1 (63#64).toNat)) else false))) = false from nnb hb); intro x hx; (try simp only [hb]); (try simp only [cond_true]); kernel_rfl) (by intro hb; have hb39 := hid (show ((!(bif ((BitVec.sshiftRight x0 (62#64).toNat) == (BitVec.sshiftRight x0 (63#64).toNat)) then ((BitVec.sshiftRight x1 (62#64).toNat) == (BitVec.sshiftRight x1 (63#64).toNat)) else false))) = false from nnb hb); intro x hx; exact span_Sadd_any (P.mk x0 x0) (P.mk x1 x1) _) ?_
  simp only [List.set_cons_succ, List.set_cons_zero]
  refine lin_if (i := 8) (v := .int .i64 (ti (x0))) (!(!(bif ((BitVec.sshiftRight x0 (62#64).toNat) == (BitVec.sshiftRight x0 (63#64).toNat)) then ((BitVec.sshiftRight x1 (62#64).toNat) == (BitVec.sshiftRight x1 (63#64).toNat)) else false))) rfl rfl (by generalize (!(bif ((BitVec.sshiftRight x0 (62#64).toNat) == (BitVec.sshiftRight x0 (63#64).toNat)) then ((BitVec.sshiftRight x1 (62#64).toNat) == (BitVec.sshiftRight x1 (63#64).toNat)) else false)) = gg0; cases gg0 <;> rfl) (by intro hb; have hb40 := hid (show ((!(bif ((BitVec.sshiftRight x0 (62#64).toNat) == (BitVec.sshiftRight x0 (63#64).toNat)) then ((BitVec.sshiftRight x1 (62#64).toNat) == (BitVec.sshiftRight x1 (63#64).toNat)) else false))) = false from nnb hb); intro x hx; (try simp only [hb]); (try simp only [cond_true]); go_simp; (first | done | exact rfl)) ?_
  simp only [List.set_cons_succ, List.set_cons_zero]
  refine lin_if (i := 9) (v := .int .i64 (ti (x1))) (!(!(bif ((BitVec.sshiftRight x0 (62#64).toNat) == (BitVec.sshiftRight x0 (63#64).toNat)) then ((BitVec.sshiftRight x1 (62#64).toNat) == (BitVec.sshiftRight x1 (63#64).toNat)) else false))) rfl rfl (by generalize (!(bif ((BitVec.sshiftRight x0 (62#64).toNat) == (BitVec.sshiftRight x0 (63#64).toNat)) then ((BitVec.sshiftRight x1 (62#64).toNat) == (BitVec.sshiftRight x1 (63#64).toNat)) else false)) = gg0; cases gg0 <;> rfl) (by intro hb; have hb41 := hid (show ((!(bif ((BitVec.sshiftRight x0 (62#64).toNat) == (BitVec.sshiftRight x0 (63#64).toNat)) then ((BitVec.sshiftRight x1 (62#64).toNat) == (BitVec.sshiftRight x1 (63#64).toNat)) else false))) = false from nnb hb); intro x hx; (try simp only [hb]); (try simp only [cond_true]); go_simp; (first | done | exact rfl)) ?_
  simp only [List.set_cons_succ, List.set_cons_zero]
  refine lin_if (i := 10) (v := .int .i64 (ti (x0 + x1))) (!(!(bif ((BitVec.sshiftRight x0 (62#64).toNat) == (BitVec.sshiftRight x0 (63#64).toNat)) then ((BitVec.sshiftRight x1 (62#64).toNat) == (BitVec.sshiftRight x1 (63#64).toNat)) else false))) rfl rfl (by generalize (!(bif ((BitVec.sshiftRight x0 (62#64).toNat) == (BitVec.sshiftRight x0 (63#64).toNat)) then ((BitVec.sshiftRight x1 (62#64).toNat) == (BitVec.sshiftRight x1 (63#64).toNat)) else false)) = gg0; cases gg0 <;> rfl) (by intro hb; have hb42 := hid (show ((!(bif ((BitVec.sshiftRight x0 (62#64).toNat) == (BitVec.sshiftRight x0 (63#64).toNat)) then ((BitVec.sshiftRight x1 (62#64).toNat) == (BitVec.sshiftRight x1 (63#64).toNat)) else false))) = false from nnb hb); intro x hx; (try simp only [hb]); (try simp only [cond_true]); go_simp; (first | done | exact addIT x0 x1 | exact congrArg _ (addIT x0 x1) | (rw [addIT x0 x1]; done) | (rw [addIT x0 x1]; rfl))) ?_
  simp only [List.set_cons_succ, List.set_cons_zero]
  refine lin_if_call (i := 11) (f := 50) (args := #[.int .i64 (ti (x0 + x1))]) (v := .agg #[.int .i64 (ti (x0 + x1)), .int .i64 (ti (x0 + x1))]) (!(!(bif ((BitVec.sshiftRight x0 (62#64).toNat) == (BitVec.sshiftRight x0 (63#64).toNat)) then ((BitVec.sshiftRight x1 (62#64).toNat) == (BitVec.sshiftRight x1 (63#64).toNat)) else false))) (st_ups _ _) rfl rfl (by generalize (!(bif ((BitVec.sshiftRight x0 (62#64).toNat) == (BitVec.sshiftRight x0 (63#64).toNat)) then ((BitVec.sshiftRight x1 (62#64).toNat) == (BitVec.sshiftRight x1 (63#64).toNat)) else false)) = gg0; cases gg0 <;> rfl) (by intro hb; have hb43 := hid (show ((!(bif ((BitVec.sshiftRight x0 (62#64).toNat) == (BitVec.sshiftRight x0 (63#64).toNat)) then ((BitVec.sshiftRight x1 (62#64).toNat) == (BitVec.sshiftRight x1 (63#64).toNat)) else false))) = false from nnb hb); intro x hx; (try simp only [hb]); (try simp only [cond_true]); kernel_rfl) (by intro hb; have hb43 := hid (show ((!(bif ((BitVec.sshiftRight x0 (62#64).toNat) == (BitVec.sshiftRight x0 (63#64).toNat)) then ((BitVec.sshiftRight x1 (62#64).toNat) == (BitVec.sshiftRight x1 (63#64).toNat)) else false))) = false from nnb hb); intro x hx; exact span_Sof_any (x0 + x1) _) ?_
  simp only [List.set_cons_succ, List.set_cons_zero]
  refine lin_if (i := 12) (v := .bool true) (!(!(bif ((BitVec.sshiftRight x0 (62#64).toNat) == (BitVec.sshiftRight x0 (63#64).toNat)) then ((BitVec.sshiftRight x1 (62#64).toNat) == (BitVec.sshiftRight x1 (63#64).toNat)) else false))) rfl rfl (by generalize (!(bif ((BitVec.sshiftRight x0 (62#64).toNat) == (BitVec.sshiftRight x0 (63#64).toNat)) then ((BitVec.sshiftRight x1 (62#64).toNat) == (BitVec.sshiftRight x1 (63#64).toNat)) else false)) = gg0; cases gg0 <;> rfl) (by intro hb; have hb44 := hid (show ((!(bif ((BitVec.sshiftRight x0 (62#64).toNat) == (BitVec.sshiftRight x0 (63#64).toNat)) then ((BitVec.sshiftRight x1 (62#64).toNat) == (BitVec.sshiftRight x1 (63#64).toNat)) else false))) = false from nnb hb); intro x hx; (try simp only [hb]); (try simp only [cond_true]); go_simp; (first | done | exact (eqST (fun b => Result.ok (Next.value (Value.bool b)) x) ((span_Sadd (P.mk x0 x0) (P.mk x1 x1)).lo) ((span_Sadd (P.mk x0 x0) (P.mk x1 x1)).hi) (x0 + x1) (x0 + x1)).trans (congrArg (fun b => Result.ok (Next.value (Value.bool b)) x) (eqS_of (alone_sadd (sar_small (bt1 (flip_t hb44).out)) (sar_small (bt2 (flip_t hb44).out))))))) ?_
  simp only [List.set_cons_succ, List.set_cons_zero]
  refine lin_if (i := 13) (v := .bool true) (!(!(bif ((BitVec.sshiftRight x0 (62#64).toNat) == (BitVec.sshiftRight x0 (63#64).toNat)) then ((BitVec.sshiftRight x1 (62#64).toNat) == (BitVec.sshiftRight x1 (63#64).toNat)) else false))) rfl rfl (by generalize (!(bif ((BitVec.sshiftRight x0 (62#64).toNat) == (BitVec.sshiftRight x0 (63#64).toNat)) then ((BitVec.sshiftRight x1 (62#64).toNat) == (BitVec.sshiftRight x1 (63#64).toNat)) else false)) = gg0; cases gg0 <;> rfl) (by intro hb; have hb45 := hid (show ((!(bif ((BitVec.sshiftRight x0 (62#64).toNat) == (BitVec.sshiftRight x0 (63#64).toNat)) then ((BitVec.sshiftRight x1 (62#64).toNat) == (BitVec.sshiftRight x1 (63#64).toNat)) else false))) = false from nnb hb); intro x hx; (try simp only [hb]); (try simp only [cond_true]); go_simp; (first | done | exact rfl)) ?_
  simp only [List.set_cons_succ, List.set_cons_zero]
  refine lin_if (i := 14) (v := .int .i64 (ti (x0))) (!(!(bif ((BitVec.sshiftRight x0 (62#64).toNat) == (BitVec.sshiftRight x0 (63#64).toNat)) then ((BitVec.sshiftRight x1 (62#64).toNat) == (BitVec.sshiftRight x1 (63#64).toNat)) else false))) rfl rfl (by generalize (!(bif ((BitVec.sshiftRight x0 (62#64).toNat) == (BitVec.sshiftRight x0 (63#64).toNat)) then ((BitVec.sshiftRight x1 (62#64).toNat) == (BitVec.sshiftRight x1 (63#64).toNat)) else false)) = gg0; cases gg0 <;> rfl) (by intro hb; have hb46 := hid (show ((!(bif ((BitVec.sshiftRight x0 (62#64).toNat) == (BitVec.sshiftRight x0 (63#64).toNat)) then ((BitVec.sshiftRight x1 (62#64).toNat) == (BitVec.sshiftRight x1 (63#64).toNat)) else false))) = false from nnb hb); intro x hx; (try simp only [hb]); (try simp only [cond_true]); go_simp; (first | done | exact rfl)) ?_
  simp only [List.set_cons_succ, List.set_cons_zero]
  refine lin_if_call (i := 15) (f := 50) (args := #[.int .i64 (ti (x0))]) (v := .agg #[.int .i64 (ti (x0)), .int .i64 (ti (x0))]) (!(!(bif ((BitVec.sshiftRight x0 (62#64).toNat) == (BitVec.sshiftRight x0 (63#64).toNat)) then ((BitVec.sshiftRight x1 (62#64).toNat) == (BitVec.sshiftRight x1 (63#64).toNat)) else false))) (st_ups _ _) rfl rfl (by generalize (!(bif ((BitVec.sshiftRight x0 (62#64).toNat) == (BitVec.sshiftRight x0 (63#64).toNat)) then ((BitVec.sshiftRight x1 (62#64).toNat) == (BitVec.sshiftRight x1 (63#64).toNat)) else false)) = gg0; cases gg0 <;> rfl) (by intro hb; have hb47 := hid (show ((!(bif ((BitVec.sshiftRight x0 (62#64).toNat) == (BitVec.sshiftRight x0 (63#64).toNat)) then ((BitVec.sshiftRight x1 (62#64).toNat) == (BitVec.sshiftRight x1 (63#64).toNat)) else false))) = false from nnb hb); intro x hx; (try simp only [hb]); (try simp only [cond_true]); kernel_rfl) (by intro hb; have hb47 := hid (show ((!(bif ((BitVec.sshiftRight x0 (62#64).toNat) == (BitVec.sshiftRight x0 (63#64).toNat)) then ((BitVec.sshiftRight x1 (62#64).toNat) == (BitVec.sshiftRight x1 (63#64).toNat)) else false))) = false from nnb hb); intro x hx; exact span_Sof_any x0 _) ?_
  simp only [List.set_cons_succ, List.set_cons_zero]
  refine lin_if (i := 16) (v := .int .i64 (ti (x1))) (!(!(bif ((BitVec.sshiftRight x0 (62#64).toNat) == (BitVec.sshiftRight x0 (63#64).toNat)) then ((BitVec.sshiftRight x1 (62#64).toNat) == (BitVec.sshiftRight x1 (63#64).toNat)) else false))) rfl rfl (by generalize (!(bif ((BitVec.sshiftRight x0 (62#64).toNat) == (BitVec.sshiftRight x0 (63#64).toNat)) then ((BitVec.sshiftRight x1 (62#64).toNat) == (BitVec.sshiftRight x1 (63#64).toNat)) else false)) = gg0; cases gg0 <;> rfl) (by intro hb; have hb48 := hid (show ((!(bif ((BitVec.sshiftRight x0 (62#64).toNat) == (BitVec.sshiftRight x0 (63#64).toNat)) then ((BitVec.sshiftRight x1 (62#64).toNat) == (BitVec.sshiftRight x1 (63#64).toNat)) else false))) = false from nnb hb); intro x hx; (try simp only [hb]); (try simp only [cond_true]); go_simp; (first | done | exact rfl)) ?_
  simp only [List.set_cons_succ, List.set_cons_zero]
  refine lin_if_call (i := 17) (f := 50) (args := #[.int .i64 (ti (x1))]) (v := .agg #[.int .i64 (ti (x1)), .int .i64 (ti (x1))]) (!(!(bif ((BitVec.sshiftRight x0 (62#64).toNat) == (BitVec.sshiftRight x0 (63#64).toNat)) then ((BitVec.sshiftRight x1 (62#64).toNat) == (BitVec.sshiftRight x1 (63#64).toNat)) else false))) (st_ups _ _) rfl rfl (by generalize (!(bif ((BitVec.sshiftRight x0 (62#64).toNat) == (BitVec.sshiftRight x0 (63#64).toNat)) then ((BitVec.sshiftRight x1 (62#64).toNat) == (BitVec.sshiftRight x1 (63#64).toNat)) else false)) = gg0; cases gg0 <;> rfl) (by intro hb; have hb49 := hid (show ((!(bif ((BitVec.sshiftRight x0 (62#64).toNat) == (BitVec.sshiftRight x0 (63#64).toNat)) then ((BitVec.sshiftRight x1 (62#64).toNat) == (BitVec.sshiftRight x1 (63#64).toNat)) else false))) = false from nnb hb); intro x hx; (try simp only [hb]); (try simp only [cond_true]); kernel_rfl) (by intro hb; have hb49 := hid (show ((!(bif ((BitVec.sshiftRight x0 (62#64).toNat) == (BitVec.sshiftRight x0 (63#64).toNat)) then ((BitVec.sshiftRight x1 (62#64).toNat) == (BitVec.sshiftRight x1 (63#64).toNat)) else false))) = false from nnb hb); intro x hx; exact span_Sof_any x1 _) ?_
  simp only [List.set_cons_succ, List.set_cons_zero]
  refine lin_if_call (i := 18) (f := 62) (args := #[.agg #[.int .i64 (ti (x0)), .int .i64 (ti (x0))], .agg #[.int .i64 (ti (x1)), .int .i64 (ti (x1))]]) (v := .agg #[.int .i64 (ti ((span_Ssub (P.mk x0 x0) (P.mk x1 x1)).lo)), .int .i64 (ti ((span_Ssub (P.mk x0 x0) (P.mk x1 x1)).hi))]) (!(!(bif ((BitVec.sshiftRight x0 (62#64).toNat) == (BitVec.sshiftRight x0 (63#64).toNat)) then ((BitVec.sshiftRight x1 (62#64).toNat) == (BitVec.sshiftRight x1 (63#64).toNat)) else false))) (st_ups _ _) rfl rfl (by generalize (!(bif ((BitVec.sshiftRight x0 (62#64).toNat) == (BitVec.sshiftRight x0 (63#64).toNat)) then ((BitVec.sshiftRight x1 (62#64).toNat) == (BitVec.sshiftRight x1 (63#64).toNat)) else false)) = gg0; cases gg0 <;> rfl) (by intro hb; have hb50 := hid (show ((!(bif ((BitVec.sshiftRight x0 (62#64).toNat) == (BitVec.sshiftRight x0 (63#64).toNat)) then ((BitVec.sshiftRight x1 (62#64).toNat) == (BitVec.sshiftRight x1 (63#64).toNat)) else false))) = false from nnb hb); intro x hx; (try simp only [hb]); (try simp only [cond_true]); kernel_rfl) (by intro hb; have hb50 := hid (show ((!(bif ((BitVec.sshiftRight x0 (62#64).toNat) == (BitVec.sshiftRight x0 (63#64).toNat)) then ((BitVec.sshiftRight x1 (62#64).toNat) == (BitVec.sshiftRight x1 (63#64).toNat)) else false))) = false from nnb hb); intro x hx; exact span_Ssub_any (P.mk x0 x0) (P.mk x1 x1) _) ?_
  simp only [List.set_cons_succ, List.set_cons_zero]
  refine lin_if (i := 19) (v := .int .i64 (ti (x0))) (!(!(bif ((BitVec.sshiftRight x0 (62#64).toNat) == (BitVec.sshiftRight x0 (63#64).toNat)) then ((BitVec.sshiftRight x1 (62#64).toNat) == (BitVec.sshiftRight x1 (63#64).toNat)) else false))) rfl rfl (by generalize (!(bif ((BitVec.sshiftRight x0 (62#64).toNat) == (BitVec.sshiftRight x0 (63#64).toNat)) then ((BitVec.sshiftRight x1 (62#64).toNat) == (BitVec.sshiftRight x1 (63#64).toNat)) else false)) = gg0; cases gg0 <;> rfl) (by intro hb; have hb51 := hid (show ((!(bif ((BitVec.sshiftRight x0 (62#64).toNat) == (BitVec.sshiftRight x0 (63#64).toNat)) then ((BitVec.sshiftRight x1 (62#64).toNat) == (BitVec.sshiftRight x1 (63#64).toNat)) else false))) = false from nnb hb); intro x hx; (try simp only [hb]); (try simp only [cond_true]); go_simp; (first | done | exact rfl)) ?_
  simp only [List.set_cons_succ, List.set_cons_zero]
  refine lin_if (i := 20) (v := .int .i64 (ti (x1))) (!(!(bif ((BitVec.sshiftRight x0 (62#64).toNat) == (BitVec.sshiftRight x0 (63#64).toNat)) then ((BitVec.sshiftRight x1 (62#64).toNat) == (BitVec.sshiftRight x1 (63#64).toNat)) else false))) rfl rfl (by generalize (!(bif ((BitVec.sshiftRight x0 (62#64).toNat) == (BitVec.sshiftRight x0 (63#64).toNat)) then ((BitVec.sshiftRight x1 (62#64).toNat) == (BitVec.sshiftRight x1 (63#64).toNat)) else false)) = gg0; cases gg0 <;> rfl) (by intro hb; have hb52 := hid (show ((!(bif ((BitVec.sshiftRight x0 (62#64).toNat) == (BitVec.sshiftRight x0 (63#64).toNat)) then ((BitVec.sshiftRight x1 (62#64).toNat) == (BitVec.sshiftRight x1 (63#64).toNat)) else false))) = false from nnb hb); intro x hx; (try simp only [hb]); (try simp only [cond_true]); go_simp; (first | done | exact rfl)) ?_
  simp only [List.set_cons_succ, List.set_cons_zero]
  refine lin_if (i := 21) (v := .int .i64 (ti (x0 - x1))) (!(!(bif ((BitVec.sshiftRight x0 (62#64).toNat) == (BitVec.sshiftRight x0 (63#64).toNat)) then ((BitVec.sshiftRight x1 (62#64).toNat) == (BitVec.sshiftRight x1 (63#64).toNat)) else false))) rfl rfl (by generalize (!(bif ((BitVec.sshiftRight x0 (62#64).toNat) == (BitVec.sshiftRight x0 (63#64).toNat)) then ((BitVec.sshiftRight x1 (62#64).toNat) == (BitVec.sshiftRight x1 (63#64).toNat)) else false)) = gg0; cases gg0 <;> rfl) (by intro hb; have hb53 := hid (show ((!(bif ((BitVec.sshiftRight x0 (62#64).toNat) == (BitVec.sshiftRight x0 (63#64).toNat)) then ((BitVec.sshiftRight x1 (62#64).toNat) == (BitVec.sshiftRight x1 (63#64).toNat)) else false))) = false from nnb hb); intro x hx; (try simp only [hb]); (try simp only [cond_true]); go_simp; (first | done | exact subIT x0 x1 | exact congrArg _ (subIT x0 x1) | (rw [subIT x0 x1]; done) | (rw [subIT x0 x1]; rfl))) ?_
  simp only [List.set_cons_succ, List.set_cons_zero]
  refine lin_if_call (i := 22) (f := 50) (args := #[.int .i64 (ti (x0 - x1))]) (v := .agg #[.int .i64 (ti (x0 - x1)), .int .i64 (ti (x0 - x1))]) (!(!(bif ((BitVec.sshiftRight x0 (62#64).toNat) == (BitVec.sshiftRight x0 (63#64).toNat)) then ((BitVec.sshiftRight x1 (62#64).toNat) == (BitVec.sshiftRight x1 (63#64).toNat)) else false))) (st_ups _ _) rfl rfl (by generalize (!(bif ((BitVec.sshiftRight x0 (62#64).toNat) == (BitVec.sshiftRight x0 (63#64).toNat)) then ((BitVec.sshiftRight x1 (62#64).toNat) == (BitVec.sshiftRight x1 (63#64).toNat)) else false)) = gg0; cases gg0 <;> rfl) (by intro hb; have hb54 := hid (show ((!(bif ((BitVec.sshiftRight x0 (62#64).toNat) == (BitVec.sshiftRight x0 (63#64).toNat)) then ((BitVec.sshiftRight x1 (62#64).toNat) == (BitVec.sshiftRight x1 (63#64).toNat)) else false))) = false from nnb hb); intro x hx; (try simp only [hb]); (try simp only [cond_true]); kernel_rfl) (by intro hb; have hb54 := hid (show ((!(bif ((BitVec.sshiftRight x0 (62#64).toNat) == (BitVec.sshiftRight x0 (63#64).toNat)) then ((BitVec.sshiftRight x1 (62#64).toNat) == (BitVec.sshiftRight x1 (63#64).toNat)) else false))) = false from nnb hb); intro x hx; exact span_Sof_any (x0 - x1) _) ?_
  simp only [List.set_cons_succ, List.set_cons_zero]
  refine lin_if (i := 23) (v := .bool true) (!(!(bif ((BitVec.sshiftRight x0 (62#64).toNat) == (BitVec.sshiftRight x0 (63#64).toNat)) then ((BitVec.sshiftRight x1 (62#64).toNat) == (BitVec.sshiftRight x1 (63#64).toNat)) else false))) rfl rfl (by generalize (!(bif ((BitVec.sshiftRight x0 (62#64).toNat) == (BitVec.sshiftRight x0 (63#64).toNat)) then ((BitVec.sshiftRight x1 (62#64).toNat) == (BitVec.sshiftRight x1 (63#64).toNat)) else false)) = gg0; cases gg0 <;> rfl) (by intro hb; have hb55 := hid (show ((!(bif ((BitVec.sshiftRight x0 (62#64).toNat) == (BitVec.sshiftRight x0 (63#64).toNat)) then ((BitVec.sshiftRight x1 (62#64).toNat) == (BitVec.sshiftRight x1 (63#64).toNat)) else false))) = false from nnb hb); intro x hx; (try simp only [hb]); (try simp only [cond_true]); go_simp; (first | done | exact (eqST (fun b => Result.ok (Next.value (Value.bool b)) x) ((span_Ssub (P.mk x0 x0) (P.mk x1 x1)).lo) ((span_Ssub (P.mk x0 x0) (P.mk x1 x1)).hi) (x0 - x1) (x0 - x1)).trans (congrArg (fun b => Result.ok (Next.value (Value.bool b)) x) (eqS_of (alone_ssub (sar_small (bt1 (flip_t hb55).out)) (sar_small (bt2 (flip_t hb55).out))))))) ?_
  simp only [List.set_cons_succ, List.set_cons_zero]
  refine lin_if (i := 24) (v := .bool true) (!(!(bif ((BitVec.sshiftRight x0 (62#64).toNat) == (BitVec.sshiftRight x0 (63#64).toNat)) then ((BitVec.sshiftRight x1 (62#64).toNat) == (BitVec.sshiftRight x1 (63#64).toNat)) else false))) rfl rfl (by generalize (!(bif ((BitVec.sshiftRight x0 (62#64).toNat) == (BitVec.sshiftRight x0 (63#64).toNat)) then ((BitVec.sshiftRight x1 (62#64).toNat) == (BitVec.sshiftRight x1 (63#64).toNat)) else false)) = gg0; cases gg0 <;> rfl) (by intro hb; have hb56 := hid (show ((!(bif ((BitVec.sshiftRight x0 (62#64).toNat) == (BitVec.sshiftRight x0 (63#64).toNat)) then ((BitVec.sshiftRight x1 (62#64).toNat) == (BitVec.sshiftRight x1 (63#64).toNat)) else false))) = false from nnb hb); intro x hx; (try simp only [hb]); (try simp only [cond_true]); go_simp; (first | done | exact rfl)) ?_
  simp only [List.set_cons_succ, List.set_cons_zero]
  refine lin_val (i := 25) (v := .bool true) rfl rfl (by rfl) (by intro x hx; (cases hq : ((!(bif ((BitVec.sshiftRight x0 (62#64).toNat) == (BitVec.sshiftRight x0 (63#64).toNat)) then ((BitVec.sshiftRight x1 (62#64).toNat) == (BitVec.sshiftRight x1 (63#64).toNat)) else false))) <;> first | rfl | (simp only [hq]; rfl) | simp [hq])) ?_
  simp only [List.set_cons_succ, List.set_cons_zero]
  refine lin_val (i := 26) (v := .bool true) rfl rfl (by rfl) (by intro x hx; go_simp; (first | done | exact rfl)) ?_
  simp only [List.set_cons_succ, List.set_cons_zero]
  refine lin_val (i := 27) (v := .int .i64 (ti (x0))) rfl rfl (by rfl) (by intro x hx; go_simp; (first | done | exact rfl)) ?_
  simp only [List.set_cons_succ, List.set_cons_zero]
  refine lin_val (i := 28) (v := .int .i64 (ti (x0))) rfl rfl (by rfl) (by intro x hx; go_simp; (first | done | exact rfl)) ?_
  simp only [List.set_cons_succ, List.set_cons_zero]
  refine lin_val (i := 29) (v := .int .i32 (ti32 (BitVec.setWidth 32 x0))) rfl rfl (by rfl) (by intro x hx; exact (show _ = Result.ok (Next.value (.int .i32 (IntKind.i32.wrap (ti x0)))) x by kernel_rfl).trans (by rw [cutI32 x0])) ?_
  simp only [List.set_cons_succ, List.set_cons_zero]
  refine lin_val (i := 30) (v := .int .i64 (ti (BitVec.signExtend 64 (BitVec.setWidth 32 x0)))) rfl rfl (by rfl) (by intro x hx; exact (show _ = Result.ok (Next.value (.int .i64 (IntKind.i64.wrap (ti32 (BitVec.setWidth 32 x0))))) x by kernel_rfl).trans (by rw [wideI32 (BitVec.setWidth 32 x0)])) ?_
  simp only [List.set_cons_succ, List.set_cons_zero]
  refine lin_val (i := 31) (v := .bool ((x0 != (BitVec.signExtend 64 (BitVec.setWidth 32 x0))))) rfl rfl (by rfl) (by intro x hx; go_simp; (first | done | exact neIT x0 (BitVec.signExtend 64 (BitVec.setWidth 32 x0)) | exact congrArg _ (neIT x0 (BitVec.signExtend 64 (BitVec.setWidth 32 x0))) | (rw [neIT x0 (BitVec.signExtend 64 (BitVec.setWidth 32 x0))]; done) | (rw [neIT x0 (BitVec.signExtend 64 (BitVec.setWidth 32 x0))]; rfl))) ?_
  simp only [List.set_cons_succ, List.set_cons_zero]
  refine lin_val (i := 32) (v := .bool ((x0 != (BitVec.signExtend 64 (BitVec.setWidth 32 x0))))) rfl rfl (by rfl) (by intro x hx; go_simp; (first | done | exact rfl)) ?_
  simp only [List.set_cons_succ, List.set_cons_zero]
  refine lin_if (i := 33) (v := .int .i64 (ti (x0))) (!(x0 != (BitVec.signExtend 64 (BitVec.setWidth 32 x0)))) rfl rfl (by generalize (x0 != (BitVec.signExtend 64 (BitVec.setWidth 32 x0))) = gg0; cases gg0 <;> rfl) (by intro hb; have hb57 := hid (show ((x0 != (BitVec.signExtend 64 (BitVec.setWidth 32 x0)))) = false from nnb hb); intro x hx; (try simp only [hb]); (try simp only [cond_true]); go_simp; (first | done | exact rfl)) ?_
  simp only [List.set_cons_succ, List.set_cons_zero]
  refine lin_if_call (i := 34) (f := 50) (args := #[.int .i64 (ti (x0))]) (v := .agg #[.int .i64 (ti (x0)), .int .i64 (ti (x0))]) (!(x0 != (BitVec.signExtend 64 (BitVec.setWidth 32 x0)))) (st_ups _ _) rfl rfl (by generalize (x0 != (BitVec.signExtend 64 (BitVec.setWidth 32 x0))) = gg0; cases gg0 <;> rfl) (by intro hb; have hb58 := hid (show ((x0 != (BitVec.signExtend 64 (BitVec.setWidth 32 x0)))) = false from nnb hb); intro x hx; (try simp only [hb]); (try simp only [cond_true]); kernel_rfl) (by intro hb; have hb58 := hid (show ((x0 != (BitVec.signExtend 64 (BitVec.setWidth 32 x0)))) = false from nnb hb); intro x hx; exact span_Sof_any x0 _) ?_
  simp only [List.set_cons_succ, List.set_cons_zero]
  refine lin_if_call (i := 35) (f := 66) (args := #[.agg #[.int .i64 (ti (x0)), .int .i64 (ti (x0))]]) (v := .agg #[.int .i64 (ti ((span_Scut (P.mk x0 x0)).lo)), .int .i64 (ti ((span_Scut (P.mk x0 x0)).hi))]) (!(x0 != (BitVec.signExtend 64 (BitVec.setWidth 32 x0)))) (st_ups _ _) rfl rfl (by generalize (x0 != (BitVec.signExtend 64 (BitVec.setWidth 32 x0))) = gg0; cases gg0 <;> rfl) (by intro hb; have hb59 := hid (show ((x0 != (BitVec.signExtend 64 (BitVec.setWidth 32 x0)))) = false from nnb hb); intro x hx; (try simp only [hb]); (try simp only [cond_true]); kernel_rfl) (by intro hb; have hb59 := hid (show ((x0 != (BitVec.signExtend 64 (BitVec.setWidth 32 x0)))) = false from nnb hb); intro x hx; exact span_Scut_any (P.mk x0 x0) _) ?_
  simp only [List.set_cons_succ, List.set_cons_zero]
  refine lin_if (i := 36) (v := .int .i64 (ti (x0))) (!(x0 != (BitVec.signExtend 64 (BitVec.setWidth 32 x0)))) rfl rfl (by generalize (x0 != (BitVec.signExtend 64 (BitVec.setWidth 32 x0))) = gg0; cases gg0 <;> rfl) (by intro hb; have hb60 := hid (show ((x0 != (BitVec.signExtend 64 (BitVec.setWidth 32 x0)))) = false from nnb hb); intro x hx; (try simp only [hb]); (try simp only [cond_true]); go_simp; (first | done | exact rfl)) ?_
  simp only [List.set_cons_succ, List.set_cons_zero]
  refine lin_if_call (i := 37) (f := 50) (args := #[.int .i64 (ti (x0))]) (v := .agg #[.int .i64 (ti (x0)), .int .i64 (ti (x0))]) (!(x0 != (BitVec.signExtend 64 (BitVec.setWidth 32 x0)))) (st_ups _ _) rfl rfl (by generalize (x0 != (BitVec.signExtend 64 (BitVec.setWidth 32 x0))) = gg0; cases gg0 <;> rfl) (by intro hb; have hb61 := hid (show ((x0 != (BitVec.signExtend 64 (BitVec.setWidth 32 x0)))) = false from nnb hb); intro x hx; (try simp only [hb]); (try simp only [cond_true]); kernel_rfl) (by intro hb; have hb61 := hid (show ((x0 != (BitVec.signExtend 64 (BitVec.setWidth 32 x0)))) = false from nnb hb); intro x hx; exact span_Sof_any x0 _) ?_
  simp only [List.set_cons_succ, List.set_cons_zero]
  refine lin_if (i := 38) (v := .bool true) (!(x0 != (BitVec.signExtend 64 (BitVec.setWidth 32 x0)))) rfl rfl (by generalize (x0 != (BitVec.signExtend 64 (BitVec.setWidth 32 x0))) = gg0; cases gg0 <;> rfl) (by intro hb; have hb62 := hid (show ((x0 != (BitVec.signExtend 64 (BitVec.setWidth 32 x0)))) = false from nnb hb); intro x hx; (try simp only [hb]); (try simp only [cond_true]); go_simp; (first | done | exact (eqST (fun b => Result.ok (Next.value (Value.bool b)) x) ((span_Scut (P.mk x0 x0)).lo) ((span_Scut (P.mk x0 x0)).hi) x0 x0).trans (congrArg (fun b => Result.ok (Next.value (Value.bool b)) x) (eqS_of (alone_scut x0 hb62.out))))) ?_
  simp only [List.set_cons_succ, List.set_cons_zero]
  refine lin_val (i := 39) (v := .bool true) rfl rfl (by rfl) (by intro x hx; (cases hq : ((x0 != (BitVec.signExtend 64 (BitVec.setWidth 32 x0)))) <;> first | rfl | (simp only [hq]; rfl) | simp [hq])) ?_
  simp only [List.set_cons_succ, List.set_cons_zero]
  refine lin_val (i := 40) (v := .bool true) rfl rfl (by rfl) (by intro x hx; go_simp; (first | done | exact rfl)) ?_
  simp only [List.set_cons_succ, List.set_cons_zero]
  refine lin_val (i := 41) (v := .bool true) rfl rfl (by rfl) (by intro x hx; go_simp; (first | done | exact rfl)) ?_
  simp only [List.set_cons_succ, List.set_cons_zero]
  refine lin_call (i := 42) (f := 12) (args := #[]) (v := .bool true) (st_ups _ _) rfl rfl (by rfl) (fun x hx => by kernel_rfl) (by intro x hx; exact law_known_any _) ?_
  simp only [List.set_cons_succ, List.set_cons_zero]
  refine lin_val (i := 43) (v := .bool true) rfl rfl (by rfl) (by intro x hx; go_simp; (first | done | exact rfl)) ?_
  simp only [List.set_cons_succ, List.set_cons_zero]
  refine lin_val (i := 44) (v := .bool true) rfl rfl (by rfl) (by intro x hx; go_simp; (first | done | exact rfl)) ?_
  simp only [List.set_cons_succ, List.set_cons_zero]
  refine lin_done ?_
  intro W9 hx
  replace HS := hid hx
  clear hx
  go_wp2
  exact bodyPost_ret (v := .bool true) (by simp [results, Try.results8, go_sem]) rfl ⟨rfl, HS.out.below⟩
end Go.Proofs.Ytoojdndfjfmemaa.Sp
