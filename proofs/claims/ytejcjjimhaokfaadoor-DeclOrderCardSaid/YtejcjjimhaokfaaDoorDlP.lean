/-
  The walk of the law DeclOrder.
-/
import Derived.Test.YtejcjjimhaokfaaDoorDlW
import Derived.Test.YtejcjjimhaokfaaDoorDlQ
namespace Go.Proofs.YtejcjjimhaokfaaDoor.Dcl
open Go.RowKit Go.Proofs.YtejcjjimhaokfaaDoor.Num Go.Proofs.YtejcjjimhaokfaaDoor.Up Go.Proofs.YtejcjjimhaokfaaDoor.Tn
set_option maxRecDepth 100000 in
set_option maxHeartbeats 4000000 in
theorem order_1 (x0 : Dc) (x1 : BitVec 64) (x2 : BitVec 64) (x3 : BitVec 64)   (q1 : (decl_Ahead x0 x1 x2) = true) (q2 : (decl_Ahead x0 x2 x1) = false) (q3 : (x1 != x2) = true) (q4 : (decl_Ahead x0 x2 x3) = true) (q5 : (decl_Ahead x0 x1 x3) = true)  (w : World) (hT : Tn.Tab w) :
    Calls Tryd.prog 5 #[.agg #[.int .i64 (ti (x0.kind)), .int .i64 (ti (x0.entries)), .int .i64 (ti (x0.words)), .int .i64 (ti (x0.buckets)), .int .i64 (ti (x0.inner))], .int .u64 (tn (x1)), .int .u64 (tn (x2)), .int .u64 (tn (x3))] w fun e w' => e = .returned (.bool true) ∧ Below w.heap.size w w' := by
  have HT := hid hT
  clear hT
  have Hq1 := hid q1
  clear q1
  have Hq2 := hid q2
  clear q2
  have Hq3 := hid q3
  clear q3
  have Hq4 := hid q4
  clear q4
  have Hq5 := hid q5
  clear q5
  go_enter Tryd.func5, Tryd.ntmps5
  have HS := hid ((st_nil w).alloc (k := w.heap.size) rfl [.int .i64 (ti (x0.kind)), .int .i64 (ti (x0.entries)), .int .i64 (ti (x0.words)), .int .i64 (ti (x0.buckets)), .int .i64 (ti (x0.inner))] 30)
  -- region 1
  go_upto_region 1 with fail
  refine lin_begin (St w [⟨w.heap.size, [some (.int .i64 (ti (x0.kind))), some (.int .i64 (ti (x0.entries))), some (.int .i64 (ti (x0.words))), some (.int .i64 (ti (x0.buckets))), some (.int .i64 (ti (x0.inner)))], 30⟩]) rfl HS.out ?_
  refine lin_val (i := 0) (v := .agg #[.int .i64 (ti (x0.kind)), .int .i64 (ti (x0.entries)), .int .i64 (ti (x0.words)), .int .i64 (ti (x0.buckets)), .int .i64 (ti (x0.inner))]) rfl rfl (by rfl) (by intro x hx; have f0 := hx.load 0 0 rfl rfl; have f1 := hx.load 0 1 rfl rfl; have f2 := hx.load 0 2 rfl rfl; have f3 := hx.load 0 3 rfl rfl; have f4 := hx.load 0 4 rfl rfl; go_simp; (first | done | exact rfl)) ?_
  simp only [List.set_cons_succ, List.set_cons_zero]
  refine lin_val (i := 1) (v := .int .u64 (tn (x1))) rfl rfl (by rfl) (by intro x hx; go_simp; (first | done | exact rfl)) ?_
  simp only [List.set_cons_succ, List.set_cons_zero]
  refine lin_val (i := 2) (v := .int .u64 (tn (x2))) rfl rfl (by rfl) (by intro x hx; go_simp; (first | done | exact rfl)) ?_
  simp only [List.set_cons_succ, List.set_cons_zero]
  refine lin_call (i := 3) (f := 21) (args := #[.agg #[.int .i64 (ti (x0.kind)), .int .i64 (ti (x0.entries)), .int .i64 (ti (x0.words)), .int .i64 (ti (x0.buckets)), .int .i64 (ti (x0.inner))], .int .u64 (tn (x1)), .int .u64 (tn (x2))]) (v := .bool true) (st_ups _ _) rfl rfl (by rfl) (fun x hx => by kernel_rfl) (by intro x hx; exact calls_is (decl_Ahead_any x0 x1 x2 _ (HT.out.up hx.below)) (congrArg Value.bool (Hq1.out))) ?_
  simp only [List.set_cons_succ, List.set_cons_zero]
  refine lin_val (i := 4) (v := .bool true) rfl rfl (by rfl) (by intro x hx; go_simp; (first | done | exact rfl)) ?_
  simp only [List.set_cons_succ, List.set_cons_zero]
  refine lin_done ?_
  intro W1 hx
  replace HS := hid hx
  clear hx
  -- region 2
  go_upto_region 2 with fail
  refine lin_begin (St w [⟨w.heap.size, [some (.int .i64 (ti (x0.kind))), some (.int .i64 (ti (x0.entries))), some (.int .i64 (ti (x0.words))), some (.int .i64 (ti (x0.buckets))), some (.int .i64 (ti (x0.inner)))], 30⟩]) rfl HS.out ?_
  refine lin_val (i := 0) (v := .agg #[.int .i64 (ti (x0.kind)), .int .i64 (ti (x0.entries)), .int .i64 (ti (x0.words)), .int .i64 (ti (x0.buckets)), .int .i64 (ti (x0.inner))]) rfl rfl (by rfl) (by intro x hx; have f0 := hx.load 0 0 rfl rfl; have f1 := hx.load 0 1 rfl rfl; have f2 := hx.load 0 2 rfl rfl; have f3 := hx.load 0 3 rfl rfl; have f4 := hx.load 0 4 rfl rfl; go_simp; (first | done | exact rfl)) ?_
  simp only [List.set_cons_succ, List.set_cons_zero]
  refine lin_val (i := 1) (v := .int .u64 (tn (x2))) rfl rfl (by rfl) (by intro x hx; go_simp; (first | done | exact rfl)) ?_
  simp only [List.set_cons_succ, List.set_cons_zero]
  refine lin_val (i := 2) (v := .int .u64 (tn (x1))) rfl rfl (by rfl) (by intro x hx; go_simp; (first | done | exact rfl)) ?_
  simp only [List.set_cons_succ, List.set_cons_zero]
  refine lin_call (i := 3) (f := 21) (args := #[.agg #[.int .i64 (ti (x0.kind)), .int .i64 (ti (x0.entries)), .int .i64 (ti (x0.words)), .int .i64 (ti (x0.buckets)), .int .i64 (ti (x0.inner))], .int .u64 (tn (x2)), .int .u64 (tn (x1))]) (v := .bool false) (st_ups _ _) rfl rfl (by rfl) (fun x hx => by kernel_rfl) (by intro x hx; exact calls_is (decl_Ahead_any x0 x2 x1 _ (HT.out.up hx.below)) (congrArg Value.bool (Hq2.out))) ?_
  simp only [List.set_cons_succ, List.set_cons_zero]
  refine lin_val (i := 4) (v := .bool false) rfl rfl (by rfl) (by intro x hx; go_simp; (first | done | exact rfl)) ?_
  simp only [List.set_cons_succ, List.set_cons_zero]
  refine lin_done ?_
  intro W2 hx
  replace HS := hid hx
  clear hx
  -- region 3
  go_upto_region 3 with fail
  refine lin_begin (St w [⟨w.heap.size, [some (.int .i64 (ti (x0.kind))), some (.int .i64 (ti (x0.entries))), some (.int .i64 (ti (x0.words))), some (.int .i64 (ti (x0.buckets))), some (.int .i64 (ti (x0.inner)))], 30⟩]) rfl HS.out ?_
  refine lin_val (i := 0) (v := .bool true) rfl rfl (by rfl) (by intro x hx; go_simp; (first | done | exact rfl)) ?_
  simp only [List.set_cons_succ, List.set_cons_zero]
  refine lin_val (i := 1) (v := .bool true) rfl rfl (by rfl) (by intro x hx; go_simp; (first | done | exact rfl)) ?_
  simp only [List.set_cons_succ, List.set_cons_zero]
  refine lin_val (i := 2) (v := .bool false) rfl rfl (by rfl) (by intro x hx; go_simp; (first | done | exact rfl)) ?_
  simp only [List.set_cons_succ, List.set_cons_zero]
  refine lin_val (i := 3) (v := .bool false) rfl rfl (by rfl) (by intro x hx; go_simp; (first | done | exact rfl)) ?_
  simp only [List.set_cons_succ, List.set_cons_zero]
  refine lin_val (i := 4) (v := .bool false) rfl rfl (by rfl) (by intro x hx; go_simp; (first | done | exact rfl)) ?_
  simp only [List.set_cons_succ, List.set_cons_zero]
  refine lin_val (i := 5) (v := .bool true) rfl rfl (by rfl) (by intro x hx; go_simp; (first | done | exact rfl)) ?_
  simp only [List.set_cons_succ, List.set_cons_zero]
  refine lin_val (i := 6) (v := .bool true) rfl rfl (by rfl) (by intro x hx; go_simp; (first | done | exact rfl)) ?_
  simp only [List.set_cons_succ, List.set_cons_zero]
  refine lin_no (i := 7) rfl rfl (by kernel_rfl) ?_
  simp only [List.set_cons_succ, List.set_cons_zero]
  refine lin_val (i := 8) (v := .bool true) rfl rfl (by rfl) (by intro x hx; go_simp; (first | done | exact rfl)) ?_
  simp only [List.set_cons_succ, List.set_cons_zero]
  refine lin_val (i := 9) (v := .int .u64 (tn (x1))) rfl rfl (by rfl) (by intro x hx; go_simp; (first | done | exact rfl)) ?_
  simp only [List.set_cons_succ, List.set_cons_zero]
  refine lin_val (i := 10) (v := .int .u64 (tn (x2))) rfl rfl (by rfl) (by intro x hx; go_simp; (first | done | exact rfl)) ?_
  simp only [List.set_cons_succ, List.set_cons_zero]
  refine lin_val (i := 11) (v := .bool true) rfl rfl (by rfl) (by intro x hx; go_simp; (first | done | (first | exact fun e => (bne_iff_ne.1 (Hq3.out)) (tn_inj e) | exact fun e => (bne_iff_ne.1 (Hq3.out)) (BitVec.eq_of_toInt_eq e) | exact Hq3.out | exact eq_of_beq (Hq3.out) | exact congrArg _ (Hq3.out) | (rw [Hq3.out]; done) | ((first | rfl | exact neUT x1 x2 | exact congrArg _ (neUT x1 x2) | (rw [neUT x1 x2]; done) | (rw [neUT x1 x2]; rfl)); rw [Hq3.out]) | exact congrArg tn (eq_of_beq (Hq3.out)) | exact congrArg ti (eq_of_beq (Hq3.out)) | exact congrArg tn (eq_of_bne (Hq3.out)) | simpa using (Hq3.out)))) ?_
  simp only [List.set_cons_succ, List.set_cons_zero]
  refine lin_val (i := 12) (v := .bool false) rfl rfl (by rfl) (by intro x hx; go_simp; (first | done | rfl | simp)) ?_
  simp only [List.set_cons_succ, List.set_cons_zero]
  refine lin_val (i := 13) (v := .bool false) rfl rfl (by rfl) (by intro x hx; go_simp; (first | done | exact rfl)) ?_
  simp only [List.set_cons_succ, List.set_cons_zero]
  refine lin_val (i := 14) (v := .bool false) rfl rfl (by rfl) (by intro x hx; go_simp; (first | done | exact rfl)) ?_
  simp only [List.set_cons_succ, List.set_cons_zero]
  refine lin_val (i := 15) (v := .bool true) rfl rfl (by rfl) (by intro x hx; go_simp; (first | done | exact rfl)) ?_
  simp only [List.set_cons_succ, List.set_cons_zero]
  refine lin_val (i := 16) (v := .bool true) rfl rfl (by rfl) (by intro x hx; go_simp; (first | done | exact rfl)) ?_
  simp only [List.set_cons_succ, List.set_cons_zero]
  refine lin_val (i := 17) (v := .agg #[.int .i64 (ti (x0.kind)), .int .i64 (ti (x0.entries)), .int .i64 (ti (x0.words)), .int .i64 (ti (x0.buckets)), .int .i64 (ti (x0.inner))]) rfl rfl (by rfl) (by intro x hx; have f0 := hx.load 0 0 rfl rfl; have f1 := hx.load 0 1 rfl rfl; have f2 := hx.load 0 2 rfl rfl; have f3 := hx.load 0 3 rfl rfl; have f4 := hx.load 0 4 rfl rfl; go_simp; (first | done | exact rfl)) ?_
  simp only [List.set_cons_succ, List.set_cons_zero]
  refine lin_val (i := 18) (v := .int .u64 (tn (x2))) rfl rfl (by rfl) (by intro x hx; go_simp; (first | done | exact rfl)) ?_
  simp only [List.set_cons_succ, List.set_cons_zero]
  refine lin_val (i := 19) (v := .int .u64 (tn (x3))) rfl rfl (by rfl) (by intro x hx; go_simp; (first | done | exact rfl)) ?_
  simp only [List.set_cons_succ, List.set_cons_zero]
  refine lin_call (i := 20) (f := 21) (args := #[.agg #[.int .i64 (ti (x0.kind)), .int .i64 (ti (x0.entries)), .int .i64 (ti (x0.words)), .int .i64 (ti (x0.buckets)), .int .i64 (ti (x0.inner))], .int .u64 (tn (x2)), .int .u64 (tn (x3))]) (v := .bool true) (st_ups _ _) rfl rfl (by rfl) (fun x hx => by kernel_rfl) (by intro x hx; exact calls_is (decl_Ahead_any x0 x2 x3 _ (HT.out.up hx.below)) (congrArg Value.bool (Hq4.out))) ?_
  simp only [List.set_cons_succ, List.set_cons_zero]
  refine lin_val (i := 21) (v := .bool true) rfl rfl (by rfl) (by intro x hx; go_simp; (first | done | exact rfl)) ?_
  simp only [List.set_cons_succ, List.set_cons_zero]
  refine lin_val (i := 22) (v := .bool true) rfl rfl (by rfl) (by intro x hx; go_simp; (first | done | exact rfl)) ?_
  simp only [List.set_cons_succ, List.set_cons_zero]
  refine lin_val (i := 23) (v := .agg #[.int .i64 (ti (x0.kind)), .int .i64 (ti (x0.entries)), .int .i64 (ti (x0.words)), .int .i64 (ti (x0.buckets)), .int .i64 (ti (x0.inner))]) rfl rfl (by rfl) (by intro x hx; have f0 := hx.load 0 0 rfl rfl; have f1 := hx.load 0 1 rfl rfl; have f2 := hx.load 0 2 rfl rfl; have f3 := hx.load 0 3 rfl rfl; have f4 := hx.load 0 4 rfl rfl; go_simp; (first | done | exact rfl)) ?_
  simp only [List.set_cons_succ, List.set_cons_zero]
  refine lin_val (i := 24) (v := .int .u64 (tn (x1))) rfl rfl (by rfl) (by intro x hx; go_simp; (first | done | exact rfl)) ?_
  simp only [List.set_cons_succ, List.set_cons_zero]
  refine lin_val (i := 25) (v := .int .u64 (tn (x3))) rfl rfl (by rfl) (by intro x hx; go_simp; (first | done | exact rfl)) ?_
  simp only [List.set_cons_succ, List.set_cons_zero]
  refine lin_call (i := 26) (f := 21) (args := #[.agg #[.int .i64 (ti (x0.kind)), .int .i64 (ti (x0.entries)), .int .i64 (ti (x0.words)), .int .i64 (ti (x0.buckets)), .int .i64 (ti (x0.inner))], .int .u64 (tn (x1)), .int .u64 (tn (x3))]) (v := .bool true) (st_ups _ _) rfl rfl (by rfl) (fun x hx => by kernel_rfl) (by intro x hx; exact calls_is (decl_Ahead_any x0 x1 x3 _ (HT.out.up hx.below)) (congrArg Value.bool (Hq5.out))) ?_
  simp only [List.set_cons_succ, List.set_cons_zero]
  refine lin_val (i := 27) (v := .bool false) rfl rfl (by rfl) (by intro x hx; go_simp; (first | done | exact rfl)) ?_
  simp only [List.set_cons_succ, List.set_cons_zero]
  refine lin_val (i := 28) (v := .bool false) rfl rfl (by rfl) (by intro x hx; go_simp; (first | done | exact rfl)) ?_
  simp only [List.set_cons_succ, List.set_cons_zero]
  refine lin_val (i := 29) (v := .bool false) rfl rfl (by rfl) (by intro x hx; go_simp; (first | done | exact rfl)) ?_
  simp only [List.set_cons_succ, List.set_cons_zero]
  refine lin_done ?_
  intro W3 hx
  replace HS := hid hx
  clear hx
  -- region 5
  go_upto_region 5 with fail
  refine lin_begin (St w [⟨w.heap.size, [some (.int .i64 (ti (x0.kind))), some (.int .i64 (ti (x0.entries))), some (.int .i64 (ti (x0.words))), some (.int .i64 (ti (x0.buckets))), some (.int .i64 (ti (x0.inner)))], 30⟩]) rfl HS.out ?_
  refine lin_val (i := 0) (v := .pointer (some ⟨w.heap.size, 0, none⟩)) rfl rfl (by rfl) (by intro x hx; go_simp; (first | done | exact rfl)) ?_
  simp only [List.set_cons_succ, List.set_cons_zero]
  refine lin_val (i := 1) (v := .int .i64 (ti (x0.kind))) rfl rfl (by rfl) (by intro x hx; have f0 := hx.load 0 0 rfl rfl; go_simp; (first | done | exact rfl)) ?_
  simp only [List.set_cons_succ, List.set_cons_zero]
  refine lin_val (i := 2) (v := .bool ((x0.kind == 4#64))) rfl rfl (by rfl) (by intro x hx; go_simp; (first | done | exact eqIT x0.kind 4#64 | exact congrArg _ (eqIT x0.kind 4#64) | (rw [eqIT x0.kind 4#64]; done) | (rw [eqIT x0.kind 4#64]; rfl))) ?_
  simp only [List.set_cons_succ, List.set_cons_zero]
  refine lin_val (i := 3) (v := .bool ((x0.kind == 4#64))) rfl rfl (by rfl) (by intro x hx; go_simp; (first | done | exact rfl)) ?_
  simp only [List.set_cons_succ, List.set_cons_zero]
  refine lin_if (i := 4) (v := .pointer (some ⟨w.heap.size, 3, none⟩)) (x0.kind == 4#64) rfl rfl (by generalize (x0.kind == 4#64) = gg0; cases gg0 <;> rfl) (by intro hb; have hb136 := hid (show ((x0.kind == 4#64)) = true from hb); intro x hx; (try simp only [hb]); (try simp only [cond_true]); go_simp; (first | done | exact rfl)) ?_
  simp only [List.set_cons_succ, List.set_cons_zero]
  refine lin_if (i := 5) (v := .int .i64 (ti (x0.buckets))) (x0.kind == 4#64) rfl rfl (by generalize (x0.kind == 4#64) = gg0; cases gg0 <;> rfl) (by intro hb; have hb137 := hid (show ((x0.kind == 4#64)) = true from hb); intro x hx; (try simp only [hb]); (try simp only [cond_true]); have f0 := hx.load 0 3 rfl rfl; go_simp; (first | done | exact rfl)) ?_
  simp only [List.set_cons_succ, List.set_cons_zero]
  refine lin_if (i := 6) (v := .bool (geI x0.buckets 1#64)) (x0.kind == 4#64) rfl rfl (by generalize (x0.kind == 4#64) = gg0; cases gg0 <;> rfl) (by intro hb; have hb138 := hid (show ((x0.kind == 4#64)) = true from hb); intro x hx; (try simp only [hb]); (try simp only [cond_true]); go_simp; (first | done | exact geIT x0.buckets 1#64 | exact congrArg _ (geIT x0.buckets 1#64) | (rw [geIT x0.buckets 1#64]; done) | (rw [geIT x0.buckets 1#64]; rfl))) ?_
  simp only [List.set_cons_succ, List.set_cons_zero]
  refine lin_val (i := 7) (v := .bool ((bif (x0.kind == 4#64) then geI x0.buckets 1#64 else false))) rfl rfl (by rfl) (by intro x hx; (cases hq : ((x0.kind == 4#64)) <;> first | rfl | (simp only [hq]; rfl) | simp [hq])) ?_
  simp only [List.set_cons_succ, List.set_cons_zero]
  refine lin_done ?_
  intro W4 hx
  replace HS := hid hx
  clear hx
  cases h1 : ((bif (x0.kind == 4#64) then geI x0.buckets 1#64 else false))
  · replace h1 := hid h1
    -- region 10
    go_upto_region 10 with fail
    refine lin_begin (St w [⟨w.heap.size, [some (.int .i64 (ti (x0.kind))), some (.int .i64 (ti (x0.entries))), some (.int .i64 (ti (x0.words))), some (.int .i64 (ti (x0.buckets))), some (.int .i64 (ti (x0.inner)))], 30⟩]) rfl HS.out ?_
    refine lin_call (i := 0) (f := 8) (args := #[]) (v := .bool true) (st_ups _ _) rfl rfl (by rfl) (fun x hx => by kernel_rfl) (by intro x hx; exact law_works_any _ (HT.out.up hx.below)) ?_
    simp only [List.set_cons_succ, List.set_cons_zero]
    refine lin_val (i := 1) (v := .bool true) rfl rfl (by rfl) (by intro x hx; go_simp; (first | done | exact rfl)) ?_
    simp only [List.set_cons_succ, List.set_cons_zero]
    refine lin_done ?_
    intro W5 hx
    replace HS := hid hx
    clear hx
    go_wp2
    exact bodyPost_ret (v := .bool true) (by simp [results, Tryd.results5, go_sem]) rfl ⟨rfl, HS.out.below⟩
  · replace h1 := hid h1
    -- region 6
    go_upto_region 6 with fail
    refine lin_begin (St w [⟨w.heap.size, [some (.int .i64 (ti (x0.kind))), some (.int .i64 (ti (x0.entries))), some (.int .i64 (ti (x0.words))), some (.int .i64 (ti (x0.buckets))), some (.int .i64 (ti (x0.inner)))], 30⟩]) rfl HS.out ?_
    refine lin_val (i := 0) (v := .int .u64 (tn (x1))) rfl rfl (by rfl) (by intro x hx; go_simp; (first | done | exact rfl)) ?_
    simp only [List.set_cons_succ, List.set_cons_zero]
    refine lin_val (i := 1) (v := .pointer (some ⟨w.heap.size, 3, none⟩)) rfl rfl (by rfl) (by intro x hx; go_simp; (first | done | exact rfl)) ?_
    simp only [List.set_cons_succ, List.set_cons_zero]
    refine lin_val (i := 2) (v := .int .i64 (ti (x0.buckets))) rfl rfl (by rfl) (by intro x hx; have f0 := hx.load 0 3 rfl rfl; go_simp; (first | done | exact rfl)) ?_
    simp only [List.set_cons_succ, List.set_cons_zero]
    refine lin_call (i := 3) (f := 19) (args := #[.int .u64 (tn (x1)), .int .i64 (ti (x0.buckets))]) (v := .int .i64 (ti (decl_Bucket x1 x0.buckets))) (st_ups _ _) rfl rfl (by rfl) (fun x hx => by kernel_rfl) (by intro x hx; exact decl_Bucket_any x1 x0.buckets _) ?_
    simp only [List.set_cons_succ, List.set_cons_zero]
    refine lin_val (i := 4) (v := .int .i64 (ti (decl_Bucket x1 x0.buckets))) rfl rfl (by rfl) (by intro x hx; go_simp; (first | done | exact rfl)) ?_
    simp only [List.set_cons_succ, List.set_cons_zero]
    refine lin_done ?_
    intro W5 hx
    replace HS := hid hx
    clear hx
    -- region 7
    go_upto_region 7 with fail
    refine lin_begin (St w [⟨w.heap.size, [some (.int .i64 (ti (x0.kind))), some (.int .i64 (ti (x0.entries))), some (.int .i64 (ti (x0.words))), some (.int .i64 (ti (x0.buckets))), some (.int .i64 (ti (x0.inner)))], 30⟩]) rfl HS.out ?_
    refine lin_val (i := 0) (v := .int .u64 (tn (x2))) rfl rfl (by rfl) (by intro x hx; go_simp; (first | done | exact rfl)) ?_
    simp only [List.set_cons_succ, List.set_cons_zero]
    refine lin_val (i := 1) (v := .pointer (some ⟨w.heap.size, 3, none⟩)) rfl rfl (by rfl) (by intro x hx; go_simp; (first | done | exact rfl)) ?_
    simp only [List.set_cons_succ, List.set_cons_zero]
    refine lin_val (i := 2) (v := .int .i64 (ti (x0.buckets))) rfl rfl (by rfl) (by intro x hx; have f0 := hx.load 0 3 rfl rfl; go_simp; (first | done | exact rfl)) ?_
    simp only [List.set_cons_succ, List.set_cons_zero]
    refine lin_call (i := 3) (f := 19) (args := #[.int .u64 (tn (x2)), .int .i64 (ti (x0.buckets))]) (v := .int .i64 (ti (decl_Bucket x2 x0.buckets))) (st_ups _ _) rfl rfl (by rfl) (fun x hx => by kernel_rfl) (by intro x hx; exact decl_Bucket_any x2 x0.buckets _) ?_
    simp only [List.set_cons_succ, List.set_cons_zero]
    refine lin_val (i := 4) (v := .int .i64 (ti (decl_Bucket x2 x0.buckets))) rfl rfl (by rfl) (by intro x hx; go_simp; (first | done | exact rfl)) ?_
    simp only [List.set_cons_succ, List.set_cons_zero]
    refine lin_done ?_
    intro W6 hx
    replace HS := hid hx
    clear hx
    -- region 8
    go_upto_region 8 with fail
    refine lin_begin (St w [⟨w.heap.size, [some (.int .i64 (ti (x0.kind))), some (.int .i64 (ti (x0.entries))), some (.int .i64 (ti (x0.words))), some (.int .i64 (ti (x0.buckets))), some (.int .i64 (ti (x0.inner)))], 30⟩]) rfl HS.out ?_
    refine lin_val (i := 0) (v := .int .i64 (ti (decl_Bucket x1 x0.buckets))) rfl rfl (by rfl) (by intro x hx; go_simp; (first | done | exact rfl)) ?_
    simp only [List.set_cons_succ, List.set_cons_zero]
    refine lin_val (i := 1) (v := .bool false) rfl rfl (by rfl) (by intro x hx; go_simp; (first | done | (first | exact Int.not_lt.1 (of_decide_eq_false (hash_lo x1 h1.out)) | exact hash_lo x1 h1.out | exact eq_of_beq (hash_lo x1 h1.out) | exact congrArg _ (hash_lo x1 h1.out) | (rw [hash_lo x1 h1.out]; done) | ((first | rfl | exact ltIT (decl_Bucket x1 x0.buckets) 0#64 | exact congrArg _ (ltIT (decl_Bucket x1 x0.buckets) 0#64) | (rw [ltIT (decl_Bucket x1 x0.buckets) 0#64]; done) | (rw [ltIT (decl_Bucket x1 x0.buckets) 0#64]; rfl)); rw [hash_lo x1 h1.out]) | exact congrArg tn (eq_of_beq (hash_lo x1 h1.out)) | exact congrArg ti (eq_of_beq (hash_lo x1 h1.out)) | exact congrArg tn (eq_of_bne (hash_lo x1 h1.out)) | simpa using (hash_lo x1 h1.out)))) ?_
    simp only [List.set_cons_succ, List.set_cons_zero]
    refine lin_val (i := 2) (v := .bool false) rfl rfl (by rfl) (by intro x hx; go_simp; (first | done | exact rfl)) ?_
    simp only [List.set_cons_succ, List.set_cons_zero]
    refine lin_val (i := 3) (v := .int .i64 (ti (decl_Bucket x1 x0.buckets))) rfl rfl (by rfl) (by intro x hx; go_simp; (first | done | exact rfl)) ?_
    simp only [List.set_cons_succ, List.set_cons_zero]
    refine lin_val (i := 4) (v := .pointer (some ⟨w.heap.size, 3, none⟩)) rfl rfl (by rfl) (by intro x hx; go_simp; (first | done | exact rfl)) ?_
    simp only [List.set_cons_succ, List.set_cons_zero]
    refine lin_val (i := 5) (v := .int .i64 (ti (x0.buckets))) rfl rfl (by rfl) (by intro x hx; have f0 := hx.load 0 3 rfl rfl; go_simp; (first | done | exact rfl)) ?_
    simp only [List.set_cons_succ, List.set_cons_zero]
    refine lin_val (i := 6) (v := .bool false) rfl rfl (by rfl) (by intro x hx; go_simp; (first | done | (first | exact Int.not_le.1 (of_decide_eq_false (hash_hi x1 h1.out)) | exact hash_hi x1 h1.out | exact eq_of_beq (hash_hi x1 h1.out) | exact congrArg _ (hash_hi x1 h1.out) | (rw [hash_hi x1 h1.out]; done) | ((first | rfl | exact geIT (decl_Bucket x1 x0.buckets) x0.buckets | exact congrArg _ (geIT (decl_Bucket x1 x0.buckets) x0.buckets) | (rw [geIT (decl_Bucket x1 x0.buckets) x0.buckets]; done) | (rw [geIT (decl_Bucket x1 x0.buckets) x0.buckets]; rfl)); rw [hash_hi x1 h1.out]) | exact congrArg tn (eq_of_beq (hash_hi x1 h1.out)) | exact congrArg ti (eq_of_beq (hash_hi x1 h1.out)) | exact congrArg tn (eq_of_bne (hash_hi x1 h1.out)) | simpa using (hash_hi x1 h1.out)))) ?_
    simp only [List.set_cons_succ, List.set_cons_zero]
    refine lin_val (i := 7) (v := .bool false) rfl rfl (by rfl) (by intro x hx; go_simp; (first | done | exact rfl)) ?_
    simp only [List.set_cons_succ, List.set_cons_zero]
    refine lin_val (i := 8) (v := .bool false) rfl rfl (by rfl) (by intro x hx; go_simp; (first | done | exact rfl)) ?_
    simp only [List.set_cons_succ, List.set_cons_zero]
    refine lin_val (i := 9) (v := .int .i64 (ti (decl_Bucket x1 x0.buckets))) rfl rfl (by rfl) (by intro x hx; go_simp; (first | done | exact rfl)) ?_
    simp only [List.set_cons_succ, List.set_cons_zero]
    refine lin_val (i := 10) (v := .int .i64 (ti (decl_Bucket x2 x0.buckets))) rfl rfl (by rfl) (by intro x hx; go_simp; (first | done | exact rfl)) ?_
    simp only [List.set_cons_succ, List.set_cons_zero]
    refine lin_val (i := 11) (v := .bool (ltI (decl_Bucket x1 x0.buckets) (decl_Bucket x2 x0.buckets))) rfl rfl (by rfl) (by intro x hx; go_simp; (first | done | exact ltIT (decl_Bucket x1 x0.buckets) (decl_Bucket x2 x0.buckets) | exact congrArg _ (ltIT (decl_Bucket x1 x0.buckets) (decl_Bucket x2 x0.buckets)) | (rw [ltIT (decl_Bucket x1 x0.buckets) (decl_Bucket x2 x0.buckets)]; done) | (rw [ltIT (decl_Bucket x1 x0.buckets) (decl_Bucket x2 x0.buckets)]; rfl))) ?_
    simp only [List.set_cons_succ, List.set_cons_zero]
    refine lin_val (i := 12) (v := .bool (ltI (decl_Bucket x1 x0.buckets) (decl_Bucket x2 x0.buckets))) rfl rfl (by rfl) (by intro x hx; go_simp; (first | done | exact rfl)) ?_
    simp only [List.set_cons_succ, List.set_cons_zero]
    refine lin_if (i := 13) (v := .bool true) (ltI (decl_Bucket x1 x0.buckets) (decl_Bucket x2 x0.buckets)) rfl rfl (by generalize (ltI (decl_Bucket x1 x0.buckets) (decl_Bucket x2 x0.buckets)) = gg0; cases gg0 <;> rfl) (by intro hb; have hb139 := hid (show (ltI (decl_Bucket x1 x0.buckets) (decl_Bucket x2 x0.buckets)) = true from hb); intro x hx; (try simp only [hb]); (try simp only [cond_true]); go_simp; (first | done | exact rfl)) ?_
    simp only [List.set_cons_succ, List.set_cons_zero]
    refine lin_if (i := 14) (v := .bool false) (ltI (decl_Bucket x1 x0.buckets) (decl_Bucket x2 x0.buckets)) rfl rfl (by generalize (ltI (decl_Bucket x1 x0.buckets) (decl_Bucket x2 x0.buckets)) = gg0; cases gg0 <;> rfl) (by intro hb; have hb140 := hid (show (ltI (decl_Bucket x1 x0.buckets) (decl_Bucket x2 x0.buckets)) = true from hb); intro x hx; (try simp only [hb]); (try simp only [cond_true]); go_simp; (first | done | exact rfl)) ?_
    simp only [List.set_cons_succ, List.set_cons_zero]
    refine lin_val (i := 15) (v := .bool false) rfl rfl (by rfl) (by intro x hx; (cases hq : (ltI (decl_Bucket x1 x0.buckets) (decl_Bucket x2 x0.buckets)) <;> first | rfl | (simp only [hq]; rfl) | simp [hq])) ?_
    simp only [List.set_cons_succ, List.set_cons_zero]
    refine lin_val (i := 16) (v := .bool false) rfl rfl (by rfl) (by intro x hx; go_simp; (first | done | exact rfl)) ?_
    simp only [List.set_cons_succ, List.set_cons_zero]
    refine lin_val (i := 17) (v := .bool false) rfl rfl (by rfl) (by intro x hx; go_simp; (first | done | exact rfl)) ?_
    simp only [List.set_cons_succ, List.set_cons_zero]
    refine lin_val (i := 18) (v := .int .i64 (ti (decl_Bucket x1 x0.buckets))) rfl rfl (by rfl) (by intro x hx; go_simp; (first | done | exact rfl)) ?_
    simp only [List.set_cons_succ, List.set_cons_zero]
    refine lin_val (i := 19) (v := .int .i64 (ti (decl_Bucket x2 x0.buckets))) rfl rfl (by rfl) (by intro x hx; go_simp; (first | done | exact rfl)) ?_
    simp only [List.set_cons_succ, List.set_cons_zero]
    refine lin_val (i := 20) (v := .bool (((decl_Bucket x1 x0.buckets) == (decl_Bucket x2 x0.buckets)))) rfl rfl (by rfl) (by intro x hx; go_simp; (first | done | exact eqIT (decl_Bucket x1 x0.buckets) (decl_Bucket x2 x0.buckets) | exact congrArg _ (eqIT (decl_Bucket x1 x0.buckets) (decl_Bucket x2 x0.buckets)) | (rw [eqIT (decl_Bucket x1 x0.buckets) (decl_Bucket x2 x0.buckets)]; done) | (rw [eqIT (decl_Bucket x1 x0.buckets) (decl_Bucket x2 x0.buckets)]; rfl))) ?_
    simp only [List.set_cons_succ, List.set_cons_zero]
    refine lin_val (i := 21) (v := .bool (((decl_Bucket x1 x0.buckets) == (decl_Bucket x2 x0.buckets)))) rfl rfl (by rfl) (by intro x hx; go_simp; (first | done | exact rfl)) ?_
    simp only [List.set_cons_succ, List.set_cons_zero]
    refine lin_if (i := 22) (v := .bool true) ((decl_Bucket x1 x0.buckets) == (decl_Bucket x2 x0.buckets)) rfl rfl (by generalize ((decl_Bucket x1 x0.buckets) == (decl_Bucket x2 x0.buckets)) = gg0; cases gg0 <;> rfl) (by intro hb; have hb141 := hid (show (((decl_Bucket x1 x0.buckets) == (decl_Bucket x2 x0.buckets))) = true from hb); intro x hx; (try simp only [hb]); (try simp only [cond_true]); go_simp; (first | done | exact rfl)) ?_
    simp only [List.set_cons_succ, List.set_cons_zero]
    refine lin_if (i := 23) (v := .int .u64 (tn (x1))) ((decl_Bucket x1 x0.buckets) == (decl_Bucket x2 x0.buckets)) rfl rfl (by generalize ((decl_Bucket x1 x0.buckets) == (decl_Bucket x2 x0.buckets)) = gg0; cases gg0 <;> rfl) (by intro hb; have hb142 := hid (show (((decl_Bucket x1 x0.buckets) == (decl_Bucket x2 x0.buckets))) = true from hb); intro x hx; (try simp only [hb]); (try simp only [cond_true]); go_simp; (first | done | exact rfl)) ?_
    simp only [List.set_cons_succ, List.set_cons_zero]
    refine lin_if (i := 24) (v := .int .u64 (tn (x2))) ((decl_Bucket x1 x0.buckets) == (decl_Bucket x2 x0.buckets)) rfl rfl (by generalize ((decl_Bucket x1 x0.buckets) == (decl_Bucket x2 x0.buckets)) = gg0; cases gg0 <;> rfl) (by intro hb; have hb143 := hid (show (((decl_Bucket x1 x0.buckets) == (decl_Bucket x2 x0.buckets))) = true from hb); intro x hx; (try simp only [hb]); (try simp only [cond_true]); go_simp; (first | done | exact rfl)) ?_
    simp only [List.set_cons_succ, List.set_cons_zero]
    refine lin_if (i := 25) (v := .bool (ltU x1 x2)) ((decl_Bucket x1 x0.buckets) == (decl_Bucket x2 x0.buckets)) rfl rfl (by generalize ((decl_Bucket x1 x0.buckets) == (decl_Bucket x2 x0.buckets)) = gg0; cases gg0 <;> rfl) (by intro hb; have hb144 := hid (show (((decl_Bucket x1 x0.buckets) == (decl_Bucket x2 x0.buckets))) = true from hb); intro x hx; (try simp only [hb]); (try simp only [cond_true]); go_simp; (first | done | exact ltUT x1 x2 | exact congrArg _ (ltUT x1 x2) | (rw [ltUT x1 x2]; done) | (rw [ltUT x1 x2]; rfl))) ?_
    simp only [List.set_cons_succ, List.set_cons_zero]
    refine lin_if (i := 26) (v := .bool ((true != (ltU x1 x2)))) ((decl_Bucket x1 x0.buckets) == (decl_Bucket x2 x0.buckets)) rfl rfl (by generalize ((decl_Bucket x1 x0.buckets) == (decl_Bucket x2 x0.buckets)) = gg0; cases gg0 <;> rfl) (by intro hb; have hb145 := hid (show (((decl_Bucket x1 x0.buckets) == (decl_Bucket x2 x0.buckets))) = true from hb); intro x hx; (try simp only [hb]); (try simp only [cond_true]); go_simp; (first | done | exact neB true (ltU x1 x2) | exact congrArg _ (neB true (ltU x1 x2)) | (rw [neB true (ltU x1 x2)]; done) | (rw [neB true (ltU x1 x2)]; rfl))) ?_
    simp only [List.set_cons_succ, List.set_cons_zero]
    refine lin_val (i := 27) (v := .bool ((bif ((decl_Bucket x1 x0.buckets) == (decl_Bucket x2 x0.buckets)) then (true != (ltU x1 x2)) else false))) rfl rfl (by rfl) (by intro x hx; (cases hq : (((decl_Bucket x1 x0.buckets) == (decl_Bucket x2 x0.buckets))) <;> first | rfl | (simp only [hq]; rfl) | simp [hq])) ?_
    simp only [List.set_cons_succ, List.set_cons_zero]
    refine lin_val (i := 28) (v := .bool ((bif ((decl_Bucket x1 x0.buckets) == (decl_Bucket x2 x0.buckets)) then (true != (ltU x1 x2)) else false))) rfl rfl (by rfl) (by intro x hx; go_simp; (first | done | exact rfl)) ?_
    simp only [List.set_cons_succ, List.set_cons_zero]
    refine lin_done ?_
    intro W7 hx
    replace HS := hid hx
    clear hx
    rw [show ((bif ((decl_Bucket x1 x0.buckets) == (decl_Bucket x2 x0.buckets)) then (true != (ltU x1 x2)) else false)) = false from hash_eq (v := true) h1.out Hq1.out]
    -- region 10
    go_upto_region 10 with fail
    refine lin_begin (St w [⟨w.heap.size, [some (.int .i64 (ti (x0.kind))), some (.int .i64 (ti (x0.entries))), some (.int .i64 (ti (x0.words))), some (.int .i64 (ti (x0.buckets))), some (.int .i64 (ti (x0.inner)))], 30⟩]) rfl HS.out ?_
    refine lin_call (i := 0) (f := 8) (args := #[]) (v := .bool true) (st_ups _ _) rfl rfl (by rfl) (fun x hx => by kernel_rfl) (by intro x hx; exact law_works_any _ (HT.out.up hx.below)) ?_
    simp only [List.set_cons_succ, List.set_cons_zero]
    refine lin_val (i := 1) (v := .bool true) rfl rfl (by rfl) (by intro x hx; go_simp; (first | done | exact rfl)) ?_
    simp only [List.set_cons_succ, List.set_cons_zero]
    refine lin_done ?_
    intro W8 hx
    replace HS := hid hx
    clear hx
    go_wp2
    exact bodyPost_ret (v := .bool true) (by simp [results, Tryd.results5, go_sem]) rfl ⟨rfl, HS.out.below⟩
set_option maxRecDepth 100000 in
set_option maxHeartbeats 4000000 in
theorem order_2 (x0 : Dc) (x1 : BitVec 64) (x2 : BitVec 64) (x3 : BitVec 64)   (q1 : (decl_Ahead x0 x1 x2) = true) (q2 : (decl_Ahead x0 x2 x1) = false) (q3 : (x1 != x2) = true) (q4 : (decl_Ahead x0 x2 x3) = false)  (w : World) (hT : Tn.Tab w) :
    Calls Tryd.prog 5 #[.agg #[.int .i64 (ti (x0.kind)), .int .i64 (ti (x0.entries)), .int .i64 (ti (x0.words)), .int .i64 (ti (x0.buckets)), .int .i64 (ti (x0.inner))], .int .u64 (tn (x1)), .int .u64 (tn (x2)), .int .u64 (tn (x3))] w fun e w' => e = .returned (.bool true) ∧ Below w.heap.size w w' := by
  have HT := hid hT
  clear hT
  have Hq1 := hid q1
  clear q1
  have Hq2 := hid q2
  clear q2
  have Hq3 := hid q3
  clear q3
  have Hq4 := hid q4
  clear q4
  go_enter Tryd.func5, Tryd.ntmps5
  have HS := hid ((st_nil w).alloc (k := w.heap.size) rfl [.int .i64 (ti (x0.kind)), .int .i64 (ti (x0.entries)), .int .i64 (ti (x0.words)), .int .i64 (ti (x0.buckets)), .int .i64 (ti (x0.inner))] 30)
  -- region 1
  go_upto_region 1 with fail
  refine lin_begin (St w [⟨w.heap.size, [some (.int .i64 (ti (x0.kind))), some (.int .i64 (ti (x0.entries))), some (.int .i64 (ti (x0.words))), some (.int .i64 (ti (x0.buckets))), some (.int .i64 (ti (x0.inner)))], 30⟩]) rfl HS.out ?_
  refine lin_val (i := 0) (v := .agg #[.int .i64 (ti (x0.kind)), .int .i64 (ti (x0.entries)), .int .i64 (ti (x0.words)), .int .i64 (ti (x0.buckets)), .int .i64 (ti (x0.inner))]) rfl rfl (by rfl) (by intro x hx; have f0 := hx.load 0 0 rfl rfl; have f1 := hx.load 0 1 rfl rfl; have f2 := hx.load 0 2 rfl rfl; have f3 := hx.load 0 3 rfl rfl; have f4 := hx.load 0 4 rfl rfl; go_simp; (first | done | exact rfl)) ?_
  simp only [List.set_cons_succ, List.set_cons_zero]
  refine lin_val (i := 1) (v := .int .u64 (tn (x1))) rfl rfl (by rfl) (by intro x hx; go_simp; (first | done | exact rfl)) ?_
  simp only [List.set_cons_succ, List.set_cons_zero]
  refine lin_val (i := 2) (v := .int .u64 (tn (x2))) rfl rfl (by rfl) (by intro x hx; go_simp; (first | done | exact rfl)) ?_
  simp only [List.set_cons_succ, List.set_cons_zero]
  refine lin_call (i := 3) (f := 21) (args := #[.agg #[.int .i64 (ti (x0.kind)), .int .i64 (ti (x0.entries)), .int .i64 (ti (x0.words)), .int .i64 (ti (x0.buckets)), .int .i64 (ti (x0.inner))], .int .u64 (tn (x1)), .int .u64 (tn (x2))]) (v := .bool true) (st_ups _ _) rfl rfl (by rfl) (fun x hx => by kernel_rfl) (by intro x hx; exact calls_is (decl_Ahead_any x0 x1 x2 _ (HT.out.up hx.below)) (congrArg Value.bool (Hq1.out))) ?_
  simp only [List.set_cons_succ, List.set_cons_zero]
  refine lin_val (i := 4) (v := .bool true) rfl rfl (by rfl) (by intro x hx; go_simp; (first | done | exact rfl)) ?_
  simp only [List.set_cons_succ, List.set_cons_zero]
  refine lin_done ?_
  intro W1 hx
  replace HS := hid hx
  clear hx
  -- region 2
  go_upto_region 2 with fail
  refine lin_begin (St w [⟨w.heap.size, [some (.int .i64 (ti (x0.kind))), some (.int .i64 (ti (x0.entries))), some (.int .i64 (ti (x0.words))), some (.int .i64 (ti (x0.buckets))), some (.int .i64 (ti (x0.inner)))], 30⟩]) rfl HS.out ?_
  refine lin_val (i := 0) (v := .agg #[.int .i64 (ti (x0.kind)), .int .i64 (ti (x0.entries)), .int .i64 (ti (x0.words)), .int .i64 (ti (x0.buckets)), .int .i64 (ti (x0.inner))]) rfl rfl (by rfl) (by intro x hx; have f0 := hx.load 0 0 rfl rfl; have f1 := hx.load 0 1 rfl rfl; have f2 := hx.load 0 2 rfl rfl; have f3 := hx.load 0 3 rfl rfl; have f4 := hx.load 0 4 rfl rfl; go_simp; (first | done | exact rfl)) ?_
  simp only [List.set_cons_succ, List.set_cons_zero]
  refine lin_val (i := 1) (v := .int .u64 (tn (x2))) rfl rfl (by rfl) (by intro x hx; go_simp; (first | done | exact rfl)) ?_
  simp only [List.set_cons_succ, List.set_cons_zero]
  refine lin_val (i := 2) (v := .int .u64 (tn (x1))) rfl rfl (by rfl) (by intro x hx; go_simp; (first | done | exact rfl)) ?_
  simp only [List.set_cons_succ, List.set_cons_zero]
  refine lin_call (i := 3) (f := 21) (args := #[.agg #[.int .i64 (ti (x0.kind)), .int .i64 (ti (x0.entries)), .int .i64 (ti (x0.words)), .int .i64 (ti (x0.buckets)), .int .i64 (ti (x0.inner))], .int .u64 (tn (x2)), .int .u64 (tn (x1))]) (v := .bool false) (st_ups _ _) rfl rfl (by rfl) (fun x hx => by kernel_rfl) (by intro x hx; exact calls_is (decl_Ahead_any x0 x2 x1 _ (HT.out.up hx.below)) (congrArg Value.bool (Hq2.out))) ?_
  simp only [List.set_cons_succ, List.set_cons_zero]
  refine lin_val (i := 4) (v := .bool false) rfl rfl (by rfl) (by intro x hx; go_simp; (first | done | exact rfl)) ?_
  simp only [List.set_cons_succ, List.set_cons_zero]
  refine lin_done ?_
  intro W2 hx
  replace HS := hid hx
  clear hx
  -- region 3
  go_upto_region 3 with fail
  refine lin_begin (St w [⟨w.heap.size, [some (.int .i64 (ti (x0.kind))), some (.int .i64 (ti (x0.entries))), some (.int .i64 (ti (x0.words))), some (.int .i64 (ti (x0.buckets))), some (.int .i64 (ti (x0.inner)))], 30⟩]) rfl HS.out ?_
  refine lin_val (i := 0) (v := .bool true) rfl rfl (by rfl) (by intro x hx; go_simp; (first | done | exact rfl)) ?_
  simp only [List.set_cons_succ, List.set_cons_zero]
  refine lin_val (i := 1) (v := .bool true) rfl rfl (by rfl) (by intro x hx; go_simp; (first | done | exact rfl)) ?_
  simp only [List.set_cons_succ, List.set_cons_zero]
  refine lin_val (i := 2) (v := .bool false) rfl rfl (by rfl) (by intro x hx; go_simp; (first | done | exact rfl)) ?_
  simp only [List.set_cons_succ, List.set_cons_zero]
  refine lin_val (i := 3) (v := .bool false) rfl rfl (by rfl) (by intro x hx; go_simp; (first | done | exact rfl)) ?_
  simp only [List.set_cons_succ, List.set_cons_zero]
  refine lin_val (i := 4) (v := .bool false) rfl rfl (by rfl) (by intro x hx; go_simp; (first | done | exact rfl)) ?_
  simp only [List.set_cons_succ, List.set_cons_zero]
  refine lin_val (i := 5) (v := .bool true) rfl rfl (by rfl) (by intro x hx; go_simp; (first | done | exact rfl)) ?_
  simp only [List.set_cons_succ, List.set_cons_zero]
  refine lin_val (i := 6) (v := .bool true) rfl rfl (by rfl) (by intro x hx; go_simp; (first | done | exact rfl)) ?_
  simp only [List.set_cons_succ, List.set_cons_zero]
  refine lin_no (i := 7) rfl rfl (by kernel_rfl) ?_
  simp only [List.set_cons_succ, List.set_cons_zero]
  refine lin_val (i := 8) (v := .bool true) rfl rfl (by rfl) (by intro x hx; go_simp; (first | done | exact rfl)) ?_
  simp only [List.set_cons_succ, List.set_cons_zero]
  refine lin_val (i := 9) (v := .int .u64 (tn (x1))) rfl rfl (by rfl) (by intro x hx; go_simp; (first | done | exact rfl)) ?_
  simp only [List.set_cons_succ, List.set_cons_zero]
  refine lin_val (i := 10) (v := .int .u64 (tn (x2))) rfl rfl (by rfl) (by intro x hx; go_simp; (first | done | exact rfl)) ?_
  simp only [List.set_cons_succ, List.set_cons_zero]
  refine lin_val (i := 11) (v := .bool true) rfl rfl (by rfl) (by intro x hx; go_simp; (first | done | (first | exact fun e => (bne_iff_ne.1 (Hq3.out)) (tn_inj e) | exact fun e => (bne_iff_ne.1 (Hq3.out)) (BitVec.eq_of_toInt_eq e) | exact Hq3.out | exact eq_of_beq (Hq3.out) | exact congrArg _ (Hq3.out) | (rw [Hq3.out]; done) | ((first | rfl | exact neUT x1 x2 | exact congrArg _ (neUT x1 x2) | (rw [neUT x1 x2]; done) | (rw [neUT x1 x2]; rfl)); rw [Hq3.out]) | exact congrArg tn (eq_of_beq (Hq3.out)) | exact congrArg ti (eq_of_beq (Hq3.out)) | exact congrArg tn (eq_of_bne (Hq3.out)) | simpa using (Hq3.out)))) ?_
  simp only [List.set_cons_succ, List.set_cons_zero]
  refine lin_val (i := 12) (v := .bool false) rfl rfl (by rfl) (by intro x hx; go_simp; (first | done | rfl | simp)) ?_
  simp only [List.set_cons_succ, List.set_cons_zero]
  refine lin_val (i := 13) (v := .bool false) rfl rfl (by rfl) (by intro x hx; go_simp; (first | done | exact rfl)) ?_
  simp only [List.set_cons_succ, List.set_cons_zero]
  refine lin_val (i := 14) (v := .bool false) rfl rfl (by rfl) (by intro x hx; go_simp; (first | done | exact rfl)) ?_
  simp only [List.set_cons_succ, List.set_cons_zero]
  refine lin_val (i := 15) (v := .bool true) rfl rfl (by rfl) (by intro x hx; go_simp; (first | done | exact rfl)) ?_
  simp only [List.set_cons_succ, List.set_cons_zero]
  refine lin_val (i := 16) (v := .bool true) rfl rfl (by rfl) (by intro x hx; go_simp; (first | done | exact rfl)) ?_
  simp only [List.set_cons_succ, List.set_cons_zero]
  refine lin_val (i := 17) (v := .agg #[.int .i64 (ti (x0.kind)), .int .i64 (ti (x0.entries)), .int .i64 (ti (x0.words)), .int .i64 (ti (x0.buckets)), .int .i64 (ti (x0.inner))]) rfl rfl (by rfl) (by intro x hx; have f0 := hx.load 0 0 rfl rfl; have f1 := hx.load 0 1 rfl rfl; have f2 := hx.load 0 2 rfl rfl; have f3 := hx.load 0 3 rfl rfl; have f4 := hx.load 0 4 rfl rfl; go_simp; (first | done | exact rfl)) ?_
  simp only [List.set_cons_succ, List.set_cons_zero]
  refine lin_val (i := 18) (v := .int .u64 (tn (x2))) rfl rfl (by rfl) (by intro x hx; go_simp; (first | done | exact rfl)) ?_
  simp only [List.set_cons_succ, List.set_cons_zero]
  refine lin_val (i := 19) (v := .int .u64 (tn (x3))) rfl rfl (by rfl) (by intro x hx; go_simp; (first | done | exact rfl)) ?_
  simp only [List.set_cons_succ, List.set_cons_zero]
  refine lin_call (i := 20) (f := 21) (args := #[.agg #[.int .i64 (ti (x0.kind)), .int .i64 (ti (x0.entries)), .int .i64 (ti (x0.words)), .int .i64 (ti (x0.buckets)), .int .i64 (ti (x0.inner))], .int .u64 (tn (x2)), .int .u64 (tn (x3))]) (v := .bool false) (st_ups _ _) rfl rfl (by rfl) (fun x hx => by kernel_rfl) (by intro x hx; exact calls_is (decl_Ahead_any x0 x2 x3 _ (HT.out.up hx.below)) (congrArg Value.bool (Hq4.out))) ?_
  simp only [List.set_cons_succ, List.set_cons_zero]
  refine lin_val (i := 21) (v := .bool false) rfl rfl (by rfl) (by intro x hx; go_simp; (first | done | exact rfl)) ?_
  simp only [List.set_cons_succ, List.set_cons_zero]
  refine lin_val (i := 22) (v := .bool false) rfl rfl (by rfl) (by intro x hx; go_simp; (first | done | exact rfl)) ?_
  simp only [List.set_cons_succ, List.set_cons_zero]
  refine lin_no (i := 23) rfl rfl (by kernel_rfl) ?_
  simp only [List.set_cons_succ, List.set_cons_zero]
  refine lin_no (i := 24) rfl rfl (by kernel_rfl) ?_
  simp only [List.set_cons_succ, List.set_cons_zero]
  refine lin_no (i := 25) rfl rfl (by kernel_rfl) ?_
  simp only [List.set_cons_succ, List.set_cons_zero]
  refine lin_no (i := 26) rfl rfl (by kernel_rfl) ?_
  simp only [List.set_cons_succ, List.set_cons_zero]
  refine lin_no (i := 27) rfl rfl (by kernel_rfl) ?_
  simp only [List.set_cons_succ, List.set_cons_zero]
  refine lin_val (i := 28) (v := .bool false) rfl rfl (by rfl) (by intro x hx; go_simp; (first | done | exact rfl)) ?_
  simp only [List.set_cons_succ, List.set_cons_zero]
  refine lin_val (i := 29) (v := .bool false) rfl rfl (by rfl) (by intro x hx; go_simp; (first | done | exact rfl)) ?_
  simp only [List.set_cons_succ, List.set_cons_zero]
  refine lin_done ?_
  intro W3 hx
  replace HS := hid hx
  clear hx
  -- region 5
  go_upto_region 5 with fail
  refine lin_begin (St w [⟨w.heap.size, [some (.int .i64 (ti (x0.kind))), some (.int .i64 (ti (x0.entries))), some (.int .i64 (ti (x0.words))), some (.int .i64 (ti (x0.buckets))), some (.int .i64 (ti (x0.inner)))], 30⟩]) rfl HS.out ?_
  refine lin_val (i := 0) (v := .pointer (some ⟨w.heap.size, 0, none⟩)) rfl rfl (by rfl) (by intro x hx; go_simp; (first | done | exact rfl)) ?_
  simp only [List.set_cons_succ, List.set_cons_zero]
  refine lin_val (i := 1) (v := .int .i64 (ti (x0.kind))) rfl rfl (by rfl) (by intro x hx; have f0 := hx.load 0 0 rfl rfl; go_simp; (first | done | exact rfl)) ?_
  simp only [List.set_cons_succ, List.set_cons_zero]
  refine lin_val (i := 2) (v := .bool ((x0.kind == 4#64))) rfl rfl (by rfl) (by intro x hx; go_simp; (first | done | exact eqIT x0.kind 4#64 | exact congrArg _ (eqIT x0.kind 4#64) | (rw [eqIT x0.kind 4#64]; done) | (rw [eqIT x0.kind 4#64]; rfl))) ?_
  simp only [List.set_cons_succ, List.set_cons_zero]
  refine lin_val (i := 3) (v := .bool ((x0.kind == 4#64))) rfl rfl (by rfl) (by intro x hx; go_simp; (first | done | exact rfl)) ?_
  simp only [List.set_cons_succ, List.set_cons_zero]
  refine lin_if (i := 4) (v := .pointer (some ⟨w.heap.size, 3, none⟩)) (x0.kind == 4#64) rfl rfl (by generalize (x0.kind == 4#64) = gg0; cases gg0 <;> rfl) (by intro hb; have hb146 := hid (show ((x0.kind == 4#64)) = true from hb); intro x hx; (try simp only [hb]); (try simp only [cond_true]); go_simp; (first | done | exact rfl)) ?_
  simp only [List.set_cons_succ, List.set_cons_zero]
  refine lin_if (i := 5) (v := .int .i64 (ti (x0.buckets))) (x0.kind == 4#64) rfl rfl (by generalize (x0.kind == 4#64) = gg0; cases gg0 <;> rfl) (by intro hb; have hb147 := hid (show ((x0.kind == 4#64)) = true from hb); intro x hx; (try simp only [hb]); (try simp only [cond_true]); have f0 := hx.load 0 3 rfl rfl; go_simp; (first | done | exact rfl)) ?_
  simp only [List.set_cons_succ, List.set_cons_zero]
  refine lin_if (i := 6) (v := .bool (geI x0.buckets 1#64)) (x0.kind == 4#64) rfl rfl (by generalize (x0.kind == 4#64) = gg0; cases gg0 <;> rfl) (by intro hb; have hb148 := hid (show ((x0.kind == 4#64)) = true from hb); intro x hx; (try simp only [hb]); (try simp only [cond_true]); go_simp; (first | done | exact geIT x0.buckets 1#64 | exact congrArg _ (geIT x0.buckets 1#64) | (rw [geIT x0.buckets 1#64]; done) | (rw [geIT x0.buckets 1#64]; rfl))) ?_
  simp only [List.set_cons_succ, List.set_cons_zero]
  refine lin_val (i := 7) (v := .bool ((bif (x0.kind == 4#64) then geI x0.buckets 1#64 else false))) rfl rfl (by rfl) (by intro x hx; (cases hq : ((x0.kind == 4#64)) <;> first | rfl | (simp only [hq]; rfl) | simp [hq])) ?_
  simp only [List.set_cons_succ, List.set_cons_zero]
  refine lin_done ?_
  intro W4 hx
  replace HS := hid hx
  clear hx
  cases h1 : ((bif (x0.kind == 4#64) then geI x0.buckets 1#64 else false))
  · replace h1 := hid h1
    -- region 10
    go_upto_region 10 with fail
    refine lin_begin (St w [⟨w.heap.size, [some (.int .i64 (ti (x0.kind))), some (.int .i64 (ti (x0.entries))), some (.int .i64 (ti (x0.words))), some (.int .i64 (ti (x0.buckets))), some (.int .i64 (ti (x0.inner)))], 30⟩]) rfl HS.out ?_
    refine lin_call (i := 0) (f := 8) (args := #[]) (v := .bool true) (st_ups _ _) rfl rfl (by rfl) (fun x hx => by kernel_rfl) (by intro x hx; exact law_works_any _ (HT.out.up hx.below)) ?_
    simp only [List.set_cons_succ, List.set_cons_zero]
    refine lin_val (i := 1) (v := .bool true) rfl rfl (by rfl) (by intro x hx; go_simp; (first | done | exact rfl)) ?_
    simp only [List.set_cons_succ, List.set_cons_zero]
    refine lin_done ?_
    intro W5 hx
    replace HS := hid hx
    clear hx
    go_wp2
    exact bodyPost_ret (v := .bool true) (by simp [results, Tryd.results5, go_sem]) rfl ⟨rfl, HS.out.below⟩
  · replace h1 := hid h1
    -- region 6
    go_upto_region 6 with fail
    refine lin_begin (St w [⟨w.heap.size, [some (.int .i64 (ti (x0.kind))), some (.int .i64 (ti (x0.entries))), some (.int .i64 (ti (x0.words))), some (.int .i64 (ti (x0.buckets))), some (.int .i64 (ti (x0.inner)))], 30⟩]) rfl HS.out ?_
    refine lin_val (i := 0) (v := .int .u64 (tn (x1))) rfl rfl (by rfl) (by intro x hx; go_simp; (first | done | exact rfl)) ?_
    simp only [List.set_cons_succ, List.set_cons_zero]
    refine lin_val (i := 1) (v := .pointer (some ⟨w.heap.size, 3, none⟩)) rfl rfl (by rfl) (by intro x hx; go_simp; (first | done | exact rfl)) ?_
    simp only [List.set_cons_succ, List.set_cons_zero]
    refine lin_val (i := 2) (v := .int .i64 (ti (x0.buckets))) rfl rfl (by rfl) (by intro x hx; have f0 := hx.load 0 3 rfl rfl; go_simp; (first | done | exact rfl)) ?_
    simp only [List.set_cons_succ, List.set_cons_zero]
    refine lin_call (i := 3) (f := 19) (args := #[.int .u64 (tn (x1)), .int .i64 (ti (x0.buckets))]) (v := .int .i64 (ti (decl_Bucket x1 x0.buckets))) (st_ups _ _) rfl rfl (by rfl) (fun x hx => by kernel_rfl) (by intro x hx; exact decl_Bucket_any x1 x0.buckets _) ?_
    simp only [List.set_cons_succ, List.set_cons_zero]
    refine lin_val (i := 4) (v := .int .i64 (ti (decl_Bucket x1 x0.buckets))) rfl rfl (by rfl) (by intro x hx; go_simp; (first | done | exact rfl)) ?_
    simp only [List.set_cons_succ, List.set_cons_zero]
    refine lin_done ?_
    intro W5 hx
    replace HS := hid hx
    clear hx
    -- region 7
    go_upto_region 7 with fail
    refine lin_begin (St w [⟨w.heap.size, [some (.int .i64 (ti (x0.kind))), some (.int .i64 (ti (x0.entries))), some (.int .i64 (ti (x0.words))), some (.int .i64 (ti (x0.buckets))), some (.int .i64 (ti (x0.inner)))], 30⟩]) rfl HS.out ?_
    refine lin_val (i := 0) (v := .int .u64 (tn (x2))) rfl rfl (by rfl) (by intro x hx; go_simp; (first | done | exact rfl)) ?_
    simp only [List.set_cons_succ, List.set_cons_zero]
    refine lin_val (i := 1) (v := .pointer (some ⟨w.heap.size, 3, none⟩)) rfl rfl (by rfl) (by intro x hx; go_simp; (first | done | exact rfl)) ?_
    simp only [List.set_cons_succ, List.set_cons_zero]
    refine lin_val (i := 2) (v := .int .i64 (ti (x0.buckets))) rfl rfl (by rfl) (by intro x hx; have f0 := hx.load 0 3 rfl rfl; go_simp; (first | done | exact rfl)) ?_
    simp only [List.set_cons_succ, List.set_cons_zero]
    refine lin_call (i := 3) (f := 19) (args := #[.int .u64 (tn (x2)), .int .i64 (ti (x0.buckets))]) (v := .int .i64 (ti (decl_Bucket x2 x0.buckets))) (st_ups _ _) rfl rfl (by rfl) (fun x hx => by kernel_rfl) (by intro x hx; exact decl_Bucket_any x2 x0.buckets _) ?_
    simp only [List.set_cons_succ, List.set_cons_zero]
    refine lin_val (i := 4) (v := .int .i64 (ti (decl_Bucket x2 x0.buckets))) rfl rfl (by rfl) (by intro x hx; go_simp; (first | done | exact rfl)) ?_
    simp only [List.set_cons_succ, List.set_cons_zero]
    refine lin_done ?_
    intro W6 hx
    replace HS := hid hx
    clear hx
    -- region 8
    go_upto_region 8 with fail
    refine lin_begin (St w [⟨w.heap.size, [some (.int .i64 (ti (x0.kind))), some (.int .i64 (ti (x0.entries))), some (.int .i64 (ti (x0.words))), some (.int .i64 (ti (x0.buckets))), some (.int .i64 (ti (x0.inner)))], 30⟩]) rfl HS.out ?_
    refine lin_val (i := 0) (v := .int .i64 (ti (decl_Bucket x1 x0.buckets))) rfl rfl (by rfl) (by intro x hx; go_simp; (first | done | exact rfl)) ?_
    simp only [List.set_cons_succ, List.set_cons_zero]
    refine lin_val (i := 1) (v := .bool false) rfl rfl (by rfl) (by intro x hx; go_simp; (first | done | (first | exact Int.not_lt.1 (of_decide_eq_false (hash_lo x1 h1.out)) | exact hash_lo x1 h1.out | exact eq_of_beq (hash_lo x1 h1.out) | exact congrArg _ (hash_lo x1 h1.out) | (rw [hash_lo x1 h1.out]; done) | ((first | rfl | exact ltIT (decl_Bucket x1 x0.buckets) 0#64 | exact congrArg _ (ltIT (decl_Bucket x1 x0.buckets) 0#64) | (rw [ltIT (decl_Bucket x1 x0.buckets) 0#64]; done) | (rw [ltIT (decl_Bucket x1 x0.buckets) 0#64]; rfl)); rw [hash_lo x1 h1.out]) | exact congrArg tn (eq_of_beq (hash_lo x1 h1.out)) | exact congrArg ti (eq_of_beq (hash_lo x1 h1.out)) | exact congrArg tn (eq_of_bne (hash_lo x1 h1.out)) | simpa using (hash_lo x1 h1.out)))) ?_
    simp only [List.set_cons_succ, List.set_cons_zero]
    refine lin_val (i := 2) (v := .bool false) rfl rfl (by rfl) (by intro x hx; go_simp; (first | done | exact rfl)) ?_
    simp only [List.set_cons_succ, List.set_cons_zero]
    refine lin_val (i := 3) (v := .int .i64 (ti (decl_Bucket x1 x0.buckets))) rfl rfl (by rfl) (by intro x hx; go_simp; (first | done | exact rfl)) ?_
    simp only [List.set_cons_succ, List.set_cons_zero]
    refine lin_val (i := 4) (v := .pointer (some ⟨w.heap.size, 3, none⟩)) rfl rfl (by rfl) (by intro x hx; go_simp; (first | done | exact rfl)) ?_
    simp only [List.set_cons_succ, List.set_cons_zero]
    refine lin_val (i := 5) (v := .int .i64 (ti (x0.buckets))) rfl rfl (by rfl) (by intro x hx; have f0 := hx.load 0 3 rfl rfl; go_simp; (first | done | exact rfl)) ?_
    simp only [List.set_cons_succ, List.set_cons_zero]
    refine lin_val (i := 6) (v := .bool false) rfl rfl (by rfl) (by intro x hx; go_simp; (first | done | (first | exact Int.not_le.1 (of_decide_eq_false (hash_hi x1 h1.out)) | exact hash_hi x1 h1.out | exact eq_of_beq (hash_hi x1 h1.out) | exact congrArg _ (hash_hi x1 h1.out) | (rw [hash_hi x1 h1.out]; done) | ((first | rfl | exact geIT (decl_Bucket x1 x0.buckets) x0.buckets | exact congrArg _ (geIT (decl_Bucket x1 x0.buckets) x0.buckets) | (rw [geIT (decl_Bucket x1 x0.buckets) x0.buckets]; done) | (rw [geIT (decl_Bucket x1 x0.buckets) x0.buckets]; rfl)); rw [hash_hi x1 h1.out]) | exact congrArg tn (eq_of_beq (hash_hi x1 h1.out)) | exact congrArg ti (eq_of_beq (hash_hi x1 h1.out)) | exact congrArg tn (eq_of_bne (hash_hi x1 h1.out)) | simpa using (hash_hi x1 h1.out)))) ?_
    simp only [List.set_cons_succ, List.set_cons_zero]
    refine lin_val (i := 7) (v := .bool false) rfl rfl (by rfl) (by intro x hx; go_simp; (first | done | exact rfl)) ?_
    simp only [List.set_cons_succ, List.set_cons_zero]
    refine lin_val (i := 8) (v := .bool false) rfl rfl (by rfl) (by intro x hx; go_simp; (first | done | exact rfl)) ?_
    simp only [List.set_cons_succ, List.set_cons_zero]
    refine lin_val (i := 9) (v := .int .i64 (ti (decl_Bucket x1 x0.buckets))) rfl rfl (by rfl) (by intro x hx; go_simp; (first | done | exact rfl)) ?_
    simp only [List.set_cons_succ, List.set_cons_zero]
    refine lin_val (i := 10) (v := .int .i64 (ti (decl_Bucket x2 x0.buckets))) rfl rfl (by rfl) (by intro x hx; go_simp; (first | done | exact rfl)) ?_
    simp only [List.set_cons_succ, List.set_cons_zero]
    refine lin_val (i := 11) (v := .bool (ltI (decl_Bucket x1 x0.buckets) (decl_Bucket x2 x0.buckets))) rfl rfl (by rfl) (by intro x hx; go_simp; (first | done | exact ltIT (decl_Bucket x1 x0.buckets) (decl_Bucket x2 x0.buckets) | exact congrArg _ (ltIT (decl_Bucket x1 x0.buckets) (decl_Bucket x2 x0.buckets)) | (rw [ltIT (decl_Bucket x1 x0.buckets) (decl_Bucket x2 x0.buckets)]; done) | (rw [ltIT (decl_Bucket x1 x0.buckets) (decl_Bucket x2 x0.buckets)]; rfl))) ?_
    simp only [List.set_cons_succ, List.set_cons_zero]
    refine lin_val (i := 12) (v := .bool (ltI (decl_Bucket x1 x0.buckets) (decl_Bucket x2 x0.buckets))) rfl rfl (by rfl) (by intro x hx; go_simp; (first | done | exact rfl)) ?_
    simp only [List.set_cons_succ, List.set_cons_zero]
    refine lin_if (i := 13) (v := .bool true) (ltI (decl_Bucket x1 x0.buckets) (decl_Bucket x2 x0.buckets)) rfl rfl (by generalize (ltI (decl_Bucket x1 x0.buckets) (decl_Bucket x2 x0.buckets)) = gg0; cases gg0 <;> rfl) (by intro hb; have hb149 := hid (show (ltI (decl_Bucket x1 x0.buckets) (decl_Bucket x2 x0.buckets)) = true from hb); intro x hx; (try simp only [hb]); (try simp only [cond_true]); go_simp; (first | done | exact rfl)) ?_
    simp only [List.set_cons_succ, List.set_cons_zero]
    refine lin_if (i := 14) (v := .bool false) (ltI (decl_Bucket x1 x0.buckets) (decl_Bucket x2 x0.buckets)) rfl rfl (by generalize (ltI (decl_Bucket x1 x0.buckets) (decl_Bucket x2 x0.buckets)) = gg0; cases gg0 <;> rfl) (by intro hb; have hb150 := hid (show (ltI (decl_Bucket x1 x0.buckets) (decl_Bucket x2 x0.buckets)) = true from hb); intro x hx; (try simp only [hb]); (try simp only [cond_true]); go_simp; (first | done | exact rfl)) ?_
    simp only [List.set_cons_succ, List.set_cons_zero]
    refine lin_val (i := 15) (v := .bool false) rfl rfl (by rfl) (by intro x hx; (cases hq : (ltI (decl_Bucket x1 x0.buckets) (decl_Bucket x2 x0.buckets)) <;> first | rfl | (simp only [hq]; rfl) | simp [hq])) ?_
    simp only [List.set_cons_succ, List.set_cons_zero]
    refine lin_val (i := 16) (v := .bool false) rfl rfl (by rfl) (by intro x hx; go_simp; (first | done | exact rfl)) ?_
    simp only [List.set_cons_succ, List.set_cons_zero]
    refine lin_val (i := 17) (v := .bool false) rfl rfl (by rfl) (by intro x hx; go_simp; (first | done | exact rfl)) ?_
    simp only [List.set_cons_succ, List.set_cons_zero]
    refine lin_val (i := 18) (v := .int .i64 (ti (decl_Bucket x1 x0.buckets))) rfl rfl (by rfl) (by intro x hx; go_simp; (first | done | exact rfl)) ?_
    simp only [List.set_cons_succ, List.set_cons_zero]
    refine lin_val (i := 19) (v := .int .i64 (ti (decl_Bucket x2 x0.buckets))) rfl rfl (by rfl) (by intro x hx; go_simp; (first | done | exact rfl)) ?_
    simp only [List.set_cons_succ, List.set_cons_zero]
    refine lin_val (i := 20) (v := .bool (((decl_Bucket x1 x0.buckets) == (decl_Bucket x2 x0.buckets)))) rfl rfl (by rfl) (by intro x hx; go_simp; (first | done | exact eqIT (decl_Bucket x1 x0.buckets) (decl_Bucket x2 x0.buckets) | exact congrArg _ (eqIT (decl_Bucket x1 x0.buckets) (decl_Bucket x2 x0.buckets)) | (rw [eqIT (decl_Bucket x1 x0.buckets) (decl_Bucket x2 x0.buckets)]; done) | (rw [eqIT (decl_Bucket x1 x0.buckets) (decl_Bucket x2 x0.buckets)]; rfl))) ?_
    simp only [List.set_cons_succ, List.set_cons_zero]
    refine lin_val (i := 21) (v := .bool (((decl_Bucket x1 x0.buckets) == (decl_Bucket x2 x0.buckets)))) rfl rfl (by rfl) (by intro x hx; go_simp; (first | done | exact rfl)) ?_
    simp only [List.set_cons_succ, List.set_cons_zero]
    refine lin_if (i := 22) (v := .bool true) ((decl_Bucket x1 x0.buckets) == (decl_Bucket x2 x0.buckets)) rfl rfl (by generalize ((decl_Bucket x1 x0.buckets) == (decl_Bucket x2 x0.buckets)) = gg0; cases gg0 <;> rfl) (by intro hb; have hb151 := hid (show (((decl_Bucket x1 x0.buckets) == (decl_Bucket x2 x0.buckets))) = true from hb); intro x hx; (try simp only [hb]); (try simp only [cond_true]); go_simp; (first | done | exact rfl)) ?_
    simp only [List.set_cons_succ, List.set_cons_zero]
    refine lin_if (i := 23) (v := .int .u64 (tn (x1))) ((decl_Bucket x1 x0.buckets) == (decl_Bucket x2 x0.buckets)) rfl rfl (by generalize ((decl_Bucket x1 x0.buckets) == (decl_Bucket x2 x0.buckets)) = gg0; cases gg0 <;> rfl) (by intro hb; have hb152 := hid (show (((decl_Bucket x1 x0.buckets) == (decl_Bucket x2 x0.buckets))) = true from hb); intro x hx; (try simp only [hb]); (try simp only [cond_true]); go_simp; (first | done | exact rfl)) ?_
    simp only [List.set_cons_succ, List.set_cons_zero]
    refine lin_if (i := 24) (v := .int .u64 (tn (x2))) ((decl_Bucket x1 x0.buckets) == (decl_Bucket x2 x0.buckets)) rfl rfl (by generalize ((decl_Bucket x1 x0.buckets) == (decl_Bucket x2 x0.buckets)) = gg0; cases gg0 <;> rfl) (by intro hb; have hb153 := hid (show (((decl_Bucket x1 x0.buckets) == (decl_Bucket x2 x0.buckets))) = true from hb); intro x hx; (try simp only [hb]); (try simp only [cond_true]); go_simp; (first | done | exact rfl)) ?_
    simp only [List.set_cons_succ, List.set_cons_zero]
    refine lin_if (i := 25) (v := .bool (ltU x1 x2)) ((decl_Bucket x1 x0.buckets) == (decl_Bucket x2 x0.buckets)) rfl rfl (by generalize ((decl_Bucket x1 x0.buckets) == (decl_Bucket x2 x0.buckets)) = gg0; cases gg0 <;> rfl) (by intro hb; have hb154 := hid (show (((decl_Bucket x1 x0.buckets) == (decl_Bucket x2 x0.buckets))) = true from hb); intro x hx; (try simp only [hb]); (try simp only [cond_true]); go_simp; (first | done | exact ltUT x1 x2 | exact congrArg _ (ltUT x1 x2) | (rw [ltUT x1 x2]; done) | (rw [ltUT x1 x2]; rfl))) ?_
    simp only [List.set_cons_succ, List.set_cons_zero]
    refine lin_if (i := 26) (v := .bool ((true != (ltU x1 x2)))) ((decl_Bucket x1 x0.buckets) == (decl_Bucket x2 x0.buckets)) rfl rfl (by generalize ((decl_Bucket x1 x0.buckets) == (decl_Bucket x2 x0.buckets)) = gg0; cases gg0 <;> rfl) (by intro hb; have hb155 := hid (show (((decl_Bucket x1 x0.buckets) == (decl_Bucket x2 x0.buckets))) = true from hb); intro x hx; (try simp only [hb]); (try simp only [cond_true]); go_simp; (first | done | exact neB true (ltU x1 x2) | exact congrArg _ (neB true (ltU x1 x2)) | (rw [neB true (ltU x1 x2)]; done) | (rw [neB true (ltU x1 x2)]; rfl))) ?_
    simp only [List.set_cons_succ, List.set_cons_zero]
    refine lin_val (i := 27) (v := .bool ((bif ((decl_Bucket x1 x0.buckets) == (decl_Bucket x2 x0.buckets)) then (true != (ltU x1 x2)) else false))) rfl rfl (by rfl) (by intro x hx; (cases hq : (((decl_Bucket x1 x0.buckets) == (decl_Bucket x2 x0.buckets))) <;> first | rfl | (simp only [hq]; rfl) | simp [hq])) ?_
    simp only [List.set_cons_succ, List.set_cons_zero]
    refine lin_val (i := 28) (v := .bool ((bif ((decl_Bucket x1 x0.buckets) == (decl_Bucket x2 x0.buckets)) then (true != (ltU x1 x2)) else false))) rfl rfl (by rfl) (by intro x hx; go_simp; (first | done | exact rfl)) ?_
    simp only [List.set_cons_succ, List.set_cons_zero]
    refine lin_done ?_
    intro W7 hx
    replace HS := hid hx
    clear hx
    rw [show ((bif ((decl_Bucket x1 x0.buckets) == (decl_Bucket x2 x0.buckets)) then (true != (ltU x1 x2)) else false)) = false from hash_eq (v := true) h1.out Hq1.out]
    -- region 10
    go_upto_region 10 with fail
    refine lin_begin (St w [⟨w.heap.size, [some (.int .i64 (ti (x0.kind))), some (.int .i64 (ti (x0.entries))), some (.int .i64 (ti (x0.words))), some (.int .i64 (ti (x0.buckets))), some (.int .i64 (ti (x0.inner)))], 30⟩]) rfl HS.out ?_
    refine lin_call (i := 0) (f := 8) (args := #[]) (v := .bool true) (st_ups _ _) rfl rfl (by rfl) (fun x hx => by kernel_rfl) (by intro x hx; exact law_works_any _ (HT.out.up hx.below)) ?_
    simp only [List.set_cons_succ, List.set_cons_zero]
    refine lin_val (i := 1) (v := .bool true) rfl rfl (by rfl) (by intro x hx; go_simp; (first | done | exact rfl)) ?_
    simp only [List.set_cons_succ, List.set_cons_zero]
    refine lin_done ?_
    intro W8 hx
    replace HS := hid hx
    clear hx
    go_wp2
    exact bodyPost_ret (v := .bool true) (by simp [results, Tryd.results5, go_sem]) rfl ⟨rfl, HS.out.below⟩
set_option maxRecDepth 100000 in
set_option maxHeartbeats 4000000 in
theorem order_3 (x0 : Dc) (x1 : BitVec 64) (x2 : BitVec 64) (x3 : BitVec 64)   (q1 : (decl_Ahead x0 x1 x2) = false) (q2 : (decl_Ahead x0 x2 x1) = true) (q3 : (x1 != x2) = true)  (w : World) (hT : Tn.Tab w) :
    Calls Tryd.prog 5 #[.agg #[.int .i64 (ti (x0.kind)), .int .i64 (ti (x0.entries)), .int .i64 (ti (x0.words)), .int .i64 (ti (x0.buckets)), .int .i64 (ti (x0.inner))], .int .u64 (tn (x1)), .int .u64 (tn (x2)), .int .u64 (tn (x3))] w fun e w' => e = .returned (.bool true) ∧ Below w.heap.size w w' := by
  have HT := hid hT
  clear hT
  have Hq1 := hid q1
  clear q1
  have Hq2 := hid q2
  clear q2
  have Hq3 := hid q3
  clear q3
  go_enter Tryd.func5, Tryd.ntmps5
  have HS := hid ((st_nil w).alloc (k := w.heap.size) rfl [.int .i64 (ti (x0.kind)), .int .i64 (ti (x0.entries)), .int .i64 (ti (x0.words)), .int .i64 (ti (x0.buckets)), .int .i64 (ti (x0.inner))] 30)
  -- region 1
  go_upto_region 1 with fail
  refine lin_begin (St w [⟨w.heap.size, [some (.int .i64 (ti (x0.kind))), some (.int .i64 (ti (x0.entries))), some (.int .i64 (ti (x0.words))), some (.int .i64 (ti (x0.buckets))), some (.int .i64 (ti (x0.inner)))], 30⟩]) rfl HS.out ?_
  refine lin_val (i := 0) (v := .agg #[.int .i64 (ti (x0.kind)), .int .i64 (ti (x0.entries)), .int .i64 (ti (x0.words)), .int .i64 (ti (x0.buckets)), .int .i64 (ti (x0.inner))]) rfl rfl (by rfl) (by intro x hx; have f0 := hx.load 0 0 rfl rfl; have f1 := hx.load 0 1 rfl rfl; have f2 := hx.load 0 2 rfl rfl; have f3 := hx.load 0 3 rfl rfl; have f4 := hx.load 0 4 rfl rfl; go_simp; (first | done | exact rfl)) ?_
  simp only [List.set_cons_succ, List.set_cons_zero]
  refine lin_val (i := 1) (v := .int .u64 (tn (x1))) rfl rfl (by rfl) (by intro x hx; go_simp; (first | done | exact rfl)) ?_
  simp only [List.set_cons_succ, List.set_cons_zero]
  refine lin_val (i := 2) (v := .int .u64 (tn (x2))) rfl rfl (by rfl) (by intro x hx; go_simp; (first | done | exact rfl)) ?_
  simp only [List.set_cons_succ, List.set_cons_zero]
  refine lin_call (i := 3) (f := 21) (args := #[.agg #[.int .i64 (ti (x0.kind)), .int .i64 (ti (x0.entries)), .int .i64 (ti (x0.words)), .int .i64 (ti (x0.buckets)), .int .i64 (ti (x0.inner))], .int .u64 (tn (x1)), .int .u64 (tn (x2))]) (v := .bool false) (st_ups _ _) rfl rfl (by rfl) (fun x hx => by kernel_rfl) (by intro x hx; exact calls_is (decl_Ahead_any x0 x1 x2 _ (HT.out.up hx.below)) (congrArg Value.bool (Hq1.out))) ?_
  simp only [List.set_cons_succ, List.set_cons_zero]
  refine lin_val (i := 4) (v := .bool false) rfl rfl (by rfl) (by intro x hx; go_simp; (first | done | exact rfl)) ?_
  simp only [List.set_cons_succ, List.set_cons_zero]
  refine lin_done ?_
  intro W1 hx
  replace HS := hid hx
  clear hx
  -- region 2
  go_upto_region 2 with fail
  refine lin_begin (St w [⟨w.heap.size, [some (.int .i64 (ti (x0.kind))), some (.int .i64 (ti (x0.entries))), some (.int .i64 (ti (x0.words))), some (.int .i64 (ti (x0.buckets))), some (.int .i64 (ti (x0.inner)))], 30⟩]) rfl HS.out ?_
  refine lin_val (i := 0) (v := .agg #[.int .i64 (ti (x0.kind)), .int .i64 (ti (x0.entries)), .int .i64 (ti (x0.words)), .int .i64 (ti (x0.buckets)), .int .i64 (ti (x0.inner))]) rfl rfl (by rfl) (by intro x hx; have f0 := hx.load 0 0 rfl rfl; have f1 := hx.load 0 1 rfl rfl; have f2 := hx.load 0 2 rfl rfl; have f3 := hx.load 0 3 rfl rfl; have f4 := hx.load 0 4 rfl rfl; go_simp; (first | done | exact rfl)) ?_
  simp only [List.set_cons_succ, List.set_cons_zero]
  refine lin_val (i := 1) (v := .int .u64 (tn (x2))) rfl rfl (by rfl) (by intro x hx; go_simp; (first | done | exact rfl)) ?_
  simp only [List.set_cons_succ, List.set_cons_zero]
  refine lin_val (i := 2) (v := .int .u64 (tn (x1))) rfl rfl (by rfl) (by intro x hx; go_simp; (first | done | exact rfl)) ?_
  simp only [List.set_cons_succ, List.set_cons_zero]
  refine lin_call (i := 3) (f := 21) (args := #[.agg #[.int .i64 (ti (x0.kind)), .int .i64 (ti (x0.entries)), .int .i64 (ti (x0.words)), .int .i64 (ti (x0.buckets)), .int .i64 (ti (x0.inner))], .int .u64 (tn (x2)), .int .u64 (tn (x1))]) (v := .bool true) (st_ups _ _) rfl rfl (by rfl) (fun x hx => by kernel_rfl) (by intro x hx; exact calls_is (decl_Ahead_any x0 x2 x1 _ (HT.out.up hx.below)) (congrArg Value.bool (Hq2.out))) ?_
  simp only [List.set_cons_succ, List.set_cons_zero]
  refine lin_val (i := 4) (v := .bool true) rfl rfl (by rfl) (by intro x hx; go_simp; (first | done | exact rfl)) ?_
  simp only [List.set_cons_succ, List.set_cons_zero]
  refine lin_done ?_
  intro W2 hx
  replace HS := hid hx
  clear hx
  -- region 3
  go_upto_region 3 with fail
  refine lin_begin (St w [⟨w.heap.size, [some (.int .i64 (ti (x0.kind))), some (.int .i64 (ti (x0.entries))), some (.int .i64 (ti (x0.words))), some (.int .i64 (ti (x0.buckets))), some (.int .i64 (ti (x0.inner)))], 30⟩]) rfl HS.out ?_
  refine lin_val (i := 0) (v := .bool false) rfl rfl (by rfl) (by intro x hx; go_simp; (first | done | exact rfl)) ?_
  simp only [List.set_cons_succ, List.set_cons_zero]
  refine lin_val (i := 1) (v := .bool false) rfl rfl (by rfl) (by intro x hx; go_simp; (first | done | exact rfl)) ?_
  simp only [List.set_cons_succ, List.set_cons_zero]
  refine lin_no (i := 2) rfl rfl (by kernel_rfl) ?_
  simp only [List.set_cons_succ, List.set_cons_zero]
  refine lin_val (i := 3) (v := .bool false) rfl rfl (by rfl) (by intro x hx; go_simp; (first | done | exact rfl)) ?_
  simp only [List.set_cons_succ, List.set_cons_zero]
  refine lin_val (i := 4) (v := .bool false) rfl rfl (by rfl) (by intro x hx; go_simp; (first | done | exact rfl)) ?_
  simp only [List.set_cons_succ, List.set_cons_zero]
  refine lin_val (i := 5) (v := .bool false) rfl rfl (by rfl) (by intro x hx; go_simp; (first | done | exact rfl)) ?_
  simp only [List.set_cons_succ, List.set_cons_zero]
  refine lin_val (i := 6) (v := .bool false) rfl rfl (by rfl) (by intro x hx; go_simp; (first | done | exact rfl)) ?_
  simp only [List.set_cons_succ, List.set_cons_zero]
  refine lin_val (i := 7) (v := .bool true) rfl rfl (by rfl) (by intro x hx; go_simp; (first | done | exact rfl)) ?_
  simp only [List.set_cons_succ, List.set_cons_zero]
  refine lin_val (i := 8) (v := .bool true) rfl rfl (by rfl) (by intro x hx; go_simp; (first | done | exact rfl)) ?_
  simp only [List.set_cons_succ, List.set_cons_zero]
  refine lin_val (i := 9) (v := .int .u64 (tn (x1))) rfl rfl (by rfl) (by intro x hx; go_simp; (first | done | exact rfl)) ?_
  simp only [List.set_cons_succ, List.set_cons_zero]
  refine lin_val (i := 10) (v := .int .u64 (tn (x2))) rfl rfl (by rfl) (by intro x hx; go_simp; (first | done | exact rfl)) ?_
  simp only [List.set_cons_succ, List.set_cons_zero]
  refine lin_val (i := 11) (v := .bool true) rfl rfl (by rfl) (by intro x hx; go_simp; (first | done | (first | exact fun e => (bne_iff_ne.1 (Hq3.out)) (tn_inj e) | exact fun e => (bne_iff_ne.1 (Hq3.out)) (BitVec.eq_of_toInt_eq e) | exact Hq3.out | exact eq_of_beq (Hq3.out) | exact congrArg _ (Hq3.out) | (rw [Hq3.out]; done) | ((first | rfl | exact neUT x1 x2 | exact congrArg _ (neUT x1 x2) | (rw [neUT x1 x2]; done) | (rw [neUT x1 x2]; rfl)); rw [Hq3.out]) | exact congrArg tn (eq_of_beq (Hq3.out)) | exact congrArg ti (eq_of_beq (Hq3.out)) | exact congrArg tn (eq_of_bne (Hq3.out)) | simpa using (Hq3.out)))) ?_
  simp only [List.set_cons_succ, List.set_cons_zero]
  refine lin_val (i := 12) (v := .bool false) rfl rfl (by rfl) (by intro x hx; go_simp; (first | done | rfl | simp)) ?_
  simp only [List.set_cons_succ, List.set_cons_zero]
  refine lin_val (i := 13) (v := .bool false) rfl rfl (by rfl) (by intro x hx; go_simp; (first | done | exact rfl)) ?_
  simp only [List.set_cons_succ, List.set_cons_zero]
  refine lin_val (i := 14) (v := .bool false) rfl rfl (by rfl) (by intro x hx; go_simp; (first | done | exact rfl)) ?_
  simp only [List.set_cons_succ, List.set_cons_zero]
  refine lin_val (i := 15) (v := .bool false) rfl rfl (by rfl) (by intro x hx; go_simp; (first | done | exact rfl)) ?_
  simp only [List.set_cons_succ, List.set_cons_zero]
  refine lin_val (i := 16) (v := .bool false) rfl rfl (by rfl) (by intro x hx; go_simp; (first | done | exact rfl)) ?_
  simp only [List.set_cons_succ, List.set_cons_zero]
  refine lin_no (i := 17) rfl rfl (by kernel_rfl) ?_
  simp only [List.set_cons_succ, List.set_cons_zero]
  refine lin_no (i := 18) rfl rfl (by kernel_rfl) ?_
  simp only [List.set_cons_succ, List.set_cons_zero]
  refine lin_no (i := 19) rfl rfl (by kernel_rfl) ?_
  simp only [List.set_cons_succ, List.set_cons_zero]
  refine lin_no (i := 20) rfl rfl (by kernel_rfl) ?_
  simp only [List.set_cons_succ, List.set_cons_zero]
  refine lin_val (i := 21) (v := .bool false) rfl rfl (by rfl) (by intro x hx; go_simp; (first | done | exact rfl)) ?_
  simp only [List.set_cons_succ, List.set_cons_zero]
  refine lin_val (i := 22) (v := .bool false) rfl rfl (by rfl) (by intro x hx; go_simp; (first | done | exact rfl)) ?_
  simp only [List.set_cons_succ, List.set_cons_zero]
  refine lin_no (i := 23) rfl rfl (by kernel_rfl) ?_
  simp only [List.set_cons_succ, List.set_cons_zero]
  refine lin_no (i := 24) rfl rfl (by kernel_rfl) ?_
  simp only [List.set_cons_succ, List.set_cons_zero]
  refine lin_no (i := 25) rfl rfl (by kernel_rfl) ?_
  simp only [List.set_cons_succ, List.set_cons_zero]
  refine lin_no (i := 26) rfl rfl (by kernel_rfl) ?_
  simp only [List.set_cons_succ, List.set_cons_zero]
  refine lin_no (i := 27) rfl rfl (by kernel_rfl) ?_
  simp only [List.set_cons_succ, List.set_cons_zero]
  refine lin_val (i := 28) (v := .bool false) rfl rfl (by rfl) (by intro x hx; go_simp; (first | done | exact rfl)) ?_
  simp only [List.set_cons_succ, List.set_cons_zero]
  refine lin_val (i := 29) (v := .bool false) rfl rfl (by rfl) (by intro x hx; go_simp; (first | done | exact rfl)) ?_
  simp only [List.set_cons_succ, List.set_cons_zero]
  refine lin_done ?_
  intro W3 hx
  replace HS := hid hx
  clear hx
  -- region 5
  go_upto_region 5 with fail
  refine lin_begin (St w [⟨w.heap.size, [some (.int .i64 (ti (x0.kind))), some (.int .i64 (ti (x0.entries))), some (.int .i64 (ti (x0.words))), some (.int .i64 (ti (x0.buckets))), some (.int .i64 (ti (x0.inner)))], 30⟩]) rfl HS.out ?_
  refine lin_val (i := 0) (v := .pointer (some ⟨w.heap.size, 0, none⟩)) rfl rfl (by rfl) (by intro x hx; go_simp; (first | done | exact rfl)) ?_
  simp only [List.set_cons_succ, List.set_cons_zero]
  refine lin_val (i := 1) (v := .int .i64 (ti (x0.kind))) rfl rfl (by rfl) (by intro x hx; have f0 := hx.load 0 0 rfl rfl; go_simp; (first | done | exact rfl)) ?_
  simp only [List.set_cons_succ, List.set_cons_zero]
  refine lin_val (i := 2) (v := .bool ((x0.kind == 4#64))) rfl rfl (by rfl) (by intro x hx; go_simp; (first | done | exact eqIT x0.kind 4#64 | exact congrArg _ (eqIT x0.kind 4#64) | (rw [eqIT x0.kind 4#64]; done) | (rw [eqIT x0.kind 4#64]; rfl))) ?_
  simp only [List.set_cons_succ, List.set_cons_zero]
  refine lin_val (i := 3) (v := .bool ((x0.kind == 4#64))) rfl rfl (by rfl) (by intro x hx; go_simp; (first | done | exact rfl)) ?_
  simp only [List.set_cons_succ, List.set_cons_zero]
  refine lin_if (i := 4) (v := .pointer (some ⟨w.heap.size, 3, none⟩)) (x0.kind == 4#64) rfl rfl (by generalize (x0.kind == 4#64) = gg0; cases gg0 <;> rfl) (by intro hb; have hb156 := hid (show ((x0.kind == 4#64)) = true from hb); intro x hx; (try simp only [hb]); (try simp only [cond_true]); go_simp; (first | done | exact rfl)) ?_
  simp only [List.set_cons_succ, List.set_cons_zero]
  refine lin_if (i := 5) (v := .int .i64 (ti (x0.buckets))) (x0.kind == 4#64) rfl rfl (by generalize (x0.kind == 4#64) = gg0; cases gg0 <;> rfl) (by intro hb; have hb157 := hid (show ((x0.kind == 4#64)) = true from hb); intro x hx; (try simp only [hb]); (try simp only [cond_true]); have f0 := hx.load 0 3 rfl rfl; go_simp; (first | done | exact rfl)) ?_
  simp only [List.set_cons_succ, List.set_cons_zero]
  refine lin_if (i := 6) (v := .bool (geI x0.buckets 1#64)) (x0.kind == 4#64) rfl rfl (by generalize (x0.kind == 4#64) = gg0; cases gg0 <;> rfl) (by intro hb; have hb158 := hid (show ((x0.kind == 4#64)) = true from hb); intro x hx; (try simp only [hb]); (try simp only [cond_true]); go_simp; (first | done | exact geIT x0.buckets 1#64 | exact congrArg _ (geIT x0.buckets 1#64) | (rw [geIT x0.buckets 1#64]; done) | (rw [geIT x0.buckets 1#64]; rfl))) ?_
  simp only [List.set_cons_succ, List.set_cons_zero]
  refine lin_val (i := 7) (v := .bool ((bif (x0.kind == 4#64) then geI x0.buckets 1#64 else false))) rfl rfl (by rfl) (by intro x hx; (cases hq : ((x0.kind == 4#64)) <;> first | rfl | (simp only [hq]; rfl) | simp [hq])) ?_
  simp only [List.set_cons_succ, List.set_cons_zero]
  refine lin_done ?_
  intro W4 hx
  replace HS := hid hx
  clear hx
  cases h1 : ((bif (x0.kind == 4#64) then geI x0.buckets 1#64 else false))
  · replace h1 := hid h1
    -- region 10
    go_upto_region 10 with fail
    refine lin_begin (St w [⟨w.heap.size, [some (.int .i64 (ti (x0.kind))), some (.int .i64 (ti (x0.entries))), some (.int .i64 (ti (x0.words))), some (.int .i64 (ti (x0.buckets))), some (.int .i64 (ti (x0.inner)))], 30⟩]) rfl HS.out ?_
    refine lin_call (i := 0) (f := 8) (args := #[]) (v := .bool true) (st_ups _ _) rfl rfl (by rfl) (fun x hx => by kernel_rfl) (by intro x hx; exact law_works_any _ (HT.out.up hx.below)) ?_
    simp only [List.set_cons_succ, List.set_cons_zero]
    refine lin_val (i := 1) (v := .bool true) rfl rfl (by rfl) (by intro x hx; go_simp; (first | done | exact rfl)) ?_
    simp only [List.set_cons_succ, List.set_cons_zero]
    refine lin_done ?_
    intro W5 hx
    replace HS := hid hx
    clear hx
    go_wp2
    exact bodyPost_ret (v := .bool true) (by simp [results, Tryd.results5, go_sem]) rfl ⟨rfl, HS.out.below⟩
  · replace h1 := hid h1
    -- region 6
    go_upto_region 6 with fail
    refine lin_begin (St w [⟨w.heap.size, [some (.int .i64 (ti (x0.kind))), some (.int .i64 (ti (x0.entries))), some (.int .i64 (ti (x0.words))), some (.int .i64 (ti (x0.buckets))), some (.int .i64 (ti (x0.inner)))], 30⟩]) rfl HS.out ?_
    refine lin_val (i := 0) (v := .int .u64 (tn (x1))) rfl rfl (by rfl) (by intro x hx; go_simp; (first | done | exact rfl)) ?_
    simp only [List.set_cons_succ, List.set_cons_zero]
    refine lin_val (i := 1) (v := .pointer (some ⟨w.heap.size, 3, none⟩)) rfl rfl (by rfl) (by intro x hx; go_simp; (first | done | exact rfl)) ?_
    simp only [List.set_cons_succ, List.set_cons_zero]
    refine lin_val (i := 2) (v := .int .i64 (ti (x0.buckets))) rfl rfl (by rfl) (by intro x hx; have f0 := hx.load 0 3 rfl rfl; go_simp; (first | done | exact rfl)) ?_
    simp only [List.set_cons_succ, List.set_cons_zero]
    refine lin_call (i := 3) (f := 19) (args := #[.int .u64 (tn (x1)), .int .i64 (ti (x0.buckets))]) (v := .int .i64 (ti (decl_Bucket x1 x0.buckets))) (st_ups _ _) rfl rfl (by rfl) (fun x hx => by kernel_rfl) (by intro x hx; exact decl_Bucket_any x1 x0.buckets _) ?_
    simp only [List.set_cons_succ, List.set_cons_zero]
    refine lin_val (i := 4) (v := .int .i64 (ti (decl_Bucket x1 x0.buckets))) rfl rfl (by rfl) (by intro x hx; go_simp; (first | done | exact rfl)) ?_
    simp only [List.set_cons_succ, List.set_cons_zero]
    refine lin_done ?_
    intro W5 hx
    replace HS := hid hx
    clear hx
    -- region 7
    go_upto_region 7 with fail
    refine lin_begin (St w [⟨w.heap.size, [some (.int .i64 (ti (x0.kind))), some (.int .i64 (ti (x0.entries))), some (.int .i64 (ti (x0.words))), some (.int .i64 (ti (x0.buckets))), some (.int .i64 (ti (x0.inner)))], 30⟩]) rfl HS.out ?_
    refine lin_val (i := 0) (v := .int .u64 (tn (x2))) rfl rfl (by rfl) (by intro x hx; go_simp; (first | done | exact rfl)) ?_
    simp only [List.set_cons_succ, List.set_cons_zero]
    refine lin_val (i := 1) (v := .pointer (some ⟨w.heap.size, 3, none⟩)) rfl rfl (by rfl) (by intro x hx; go_simp; (first | done | exact rfl)) ?_
    simp only [List.set_cons_succ, List.set_cons_zero]
    refine lin_val (i := 2) (v := .int .i64 (ti (x0.buckets))) rfl rfl (by rfl) (by intro x hx; have f0 := hx.load 0 3 rfl rfl; go_simp; (first | done | exact rfl)) ?_
    simp only [List.set_cons_succ, List.set_cons_zero]
    refine lin_call (i := 3) (f := 19) (args := #[.int .u64 (tn (x2)), .int .i64 (ti (x0.buckets))]) (v := .int .i64 (ti (decl_Bucket x2 x0.buckets))) (st_ups _ _) rfl rfl (by rfl) (fun x hx => by kernel_rfl) (by intro x hx; exact decl_Bucket_any x2 x0.buckets _) ?_
    simp only [List.set_cons_succ, List.set_cons_zero]
    refine lin_val (i := 4) (v := .int .i64 (ti (decl_Bucket x2 x0.buckets))) rfl rfl (by rfl) (by intro x hx; go_simp; (first | done | exact rfl)) ?_
    simp only [List.set_cons_succ, List.set_cons_zero]
    refine lin_done ?_
    intro W6 hx
    replace HS := hid hx
    clear hx
    -- region 8
    go_upto_region 8 with fail
    refine lin_begin (St w [⟨w.heap.size, [some (.int .i64 (ti (x0.kind))), some (.int .i64 (ti (x0.entries))), some (.int .i64 (ti (x0.words))), some (.int .i64 (ti (x0.buckets))), some (.int .i64 (ti (x0.inner)))], 30⟩]) rfl HS.out ?_
    refine lin_val (i := 0) (v := .int .i64 (ti (decl_Bucket x1 x0.buckets))) rfl rfl (by rfl) (by intro x hx; go_simp; (first | done | exact rfl)) ?_
    simp only [List.set_cons_succ, List.set_cons_zero]
    refine lin_val (i := 1) (v := .bool false) rfl rfl (by rfl) (by intro x hx; go_simp; (first | done | (first | exact Int.not_lt.1 (of_decide_eq_false (hash_lo x1 h1.out)) | exact hash_lo x1 h1.out | exact eq_of_beq (hash_lo x1 h1.out) | exact congrArg _ (hash_lo x1 h1.out) | (rw [hash_lo x1 h1.out]; done) | ((first | rfl | exact ltIT (decl_Bucket x1 x0.buckets) 0#64 | exact congrArg _ (ltIT (decl_Bucket x1 x0.buckets) 0#64) | (rw [ltIT (decl_Bucket x1 x0.buckets) 0#64]; done) | (rw [ltIT (decl_Bucket x1 x0.buckets) 0#64]; rfl)); rw [hash_lo x1 h1.out]) | exact congrArg tn (eq_of_beq (hash_lo x1 h1.out)) | exact congrArg ti (eq_of_beq (hash_lo x1 h1.out)) | exact congrArg tn (eq_of_bne (hash_lo x1 h1.out)) | simpa using (hash_lo x1 h1.out)))) ?_
    simp only [List.set_cons_succ, List.set_cons_zero]
    refine lin_val (i := 2) (v := .bool false) rfl rfl (by rfl) (by intro x hx; go_simp; (first | done | exact rfl)) ?_
    simp only [List.set_cons_succ, List.set_cons_zero]
    refine lin_val (i := 3) (v := .int .i64 (ti (decl_Bucket x1 x0.buckets))) rfl rfl (by rfl) (by intro x hx; go_simp; (first | done | exact rfl)) ?_
    simp only [List.set_cons_succ, List.set_cons_zero]
    refine lin_val (i := 4) (v := .pointer (some ⟨w.heap.size, 3, none⟩)) rfl rfl (by rfl) (by intro x hx; go_simp; (first | done | exact rfl)) ?_
    simp only [List.set_cons_succ, List.set_cons_zero]
    refine lin_val (i := 5) (v := .int .i64 (ti (x0.buckets))) rfl rfl (by rfl) (by intro x hx; have f0 := hx.load 0 3 rfl rfl; go_simp; (first | done | exact rfl)) ?_
    simp only [List.set_cons_succ, List.set_cons_zero]
    refine lin_val (i := 6) (v := .bool false) rfl rfl (by rfl) (by intro x hx; go_simp; (first | done | (first | exact Int.not_le.1 (of_decide_eq_false (hash_hi x1 h1.out)) | exact hash_hi x1 h1.out | exact eq_of_beq (hash_hi x1 h1.out) | exact congrArg _ (hash_hi x1 h1.out) | (rw [hash_hi x1 h1.out]; done) | ((first | rfl | exact geIT (decl_Bucket x1 x0.buckets) x0.buckets | exact congrArg _ (geIT (decl_Bucket x1 x0.buckets) x0.buckets) | (rw [geIT (decl_Bucket x1 x0.buckets) x0.buckets]; done) | (rw [geIT (decl_Bucket x1 x0.buckets) x0.buckets]; rfl)); rw [hash_hi x1 h1.out]) | exact congrArg tn (eq_of_beq (hash_hi x1 h1.out)) | exact congrArg ti (eq_of_beq (hash_hi x1 h1.out)) | exact congrArg tn (eq_of_bne (hash_hi x1 h1.out)) | simpa using (hash_hi x1 h1.out)))) ?_
    simp only [List.set_cons_succ, List.set_cons_zero]
    refine lin_val (i := 7) (v := .bool false) rfl rfl (by rfl) (by intro x hx; go_simp; (first | done | exact rfl)) ?_
    simp only [List.set_cons_succ, List.set_cons_zero]
    refine lin_val (i := 8) (v := .bool false) rfl rfl (by rfl) (by intro x hx; go_simp; (first | done | exact rfl)) ?_
    simp only [List.set_cons_succ, List.set_cons_zero]
    refine lin_val (i := 9) (v := .int .i64 (ti (decl_Bucket x1 x0.buckets))) rfl rfl (by rfl) (by intro x hx; go_simp; (first | done | exact rfl)) ?_
    simp only [List.set_cons_succ, List.set_cons_zero]
    refine lin_val (i := 10) (v := .int .i64 (ti (decl_Bucket x2 x0.buckets))) rfl rfl (by rfl) (by intro x hx; go_simp; (first | done | exact rfl)) ?_
    simp only [List.set_cons_succ, List.set_cons_zero]
    refine lin_val (i := 11) (v := .bool false) rfl rfl (by rfl) (by intro x hx; go_simp; (first | done | (first | exact Int.not_lt.1 (of_decide_eq_false (hash_lt h1.out Hq1.out)) | exact hash_lt h1.out Hq1.out | exact eq_of_beq (hash_lt h1.out Hq1.out) | exact congrArg _ (hash_lt h1.out Hq1.out) | (rw [hash_lt h1.out Hq1.out]; done) | ((first | rfl | exact ltIT (decl_Bucket x1 x0.buckets) (decl_Bucket x2 x0.buckets) | exact congrArg _ (ltIT (decl_Bucket x1 x0.buckets) (decl_Bucket x2 x0.buckets)) | (rw [ltIT (decl_Bucket x1 x0.buckets) (decl_Bucket x2 x0.buckets)]; done) | (rw [ltIT (decl_Bucket x1 x0.buckets) (decl_Bucket x2 x0.buckets)]; rfl)); rw [hash_lt h1.out Hq1.out]) | exact congrArg tn (eq_of_beq (hash_lt h1.out Hq1.out)) | exact congrArg ti (eq_of_beq (hash_lt h1.out Hq1.out)) | exact congrArg tn (eq_of_bne (hash_lt h1.out Hq1.out)) | simpa using (hash_lt h1.out Hq1.out)))) ?_
    simp only [List.set_cons_succ, List.set_cons_zero]
    refine lin_val (i := 12) (v := .bool false) rfl rfl (by rfl) (by intro x hx; go_simp; (first | done | exact rfl)) ?_
    simp only [List.set_cons_succ, List.set_cons_zero]
    refine lin_no (i := 13) rfl rfl (by kernel_rfl) ?_
    simp only [List.set_cons_succ, List.set_cons_zero]
    refine lin_no (i := 14) rfl rfl (by kernel_rfl) ?_
    simp only [List.set_cons_succ, List.set_cons_zero]
    refine lin_val (i := 15) (v := .bool false) rfl rfl (by rfl) (by intro x hx; go_simp; (first | done | exact rfl)) ?_
    simp only [List.set_cons_succ, List.set_cons_zero]
    refine lin_val (i := 16) (v := .bool false) rfl rfl (by rfl) (by intro x hx; go_simp; (first | done | exact rfl)) ?_
    simp only [List.set_cons_succ, List.set_cons_zero]
    refine lin_val (i := 17) (v := .bool false) rfl rfl (by rfl) (by intro x hx; go_simp; (first | done | exact rfl)) ?_
    simp only [List.set_cons_succ, List.set_cons_zero]
    refine lin_val (i := 18) (v := .int .i64 (ti (decl_Bucket x1 x0.buckets))) rfl rfl (by rfl) (by intro x hx; go_simp; (first | done | exact rfl)) ?_
    simp only [List.set_cons_succ, List.set_cons_zero]
    refine lin_val (i := 19) (v := .int .i64 (ti (decl_Bucket x2 x0.buckets))) rfl rfl (by rfl) (by intro x hx; go_simp; (first | done | exact rfl)) ?_
    simp only [List.set_cons_succ, List.set_cons_zero]
    refine lin_val (i := 20) (v := .bool (((decl_Bucket x1 x0.buckets) == (decl_Bucket x2 x0.buckets)))) rfl rfl (by rfl) (by intro x hx; go_simp; (first | done | exact eqIT (decl_Bucket x1 x0.buckets) (decl_Bucket x2 x0.buckets) | exact congrArg _ (eqIT (decl_Bucket x1 x0.buckets) (decl_Bucket x2 x0.buckets)) | (rw [eqIT (decl_Bucket x1 x0.buckets) (decl_Bucket x2 x0.buckets)]; done) | (rw [eqIT (decl_Bucket x1 x0.buckets) (decl_Bucket x2 x0.buckets)]; rfl))) ?_
    simp only [List.set_cons_succ, List.set_cons_zero]
    refine lin_val (i := 21) (v := .bool (((decl_Bucket x1 x0.buckets) == (decl_Bucket x2 x0.buckets)))) rfl rfl (by rfl) (by intro x hx; go_simp; (first | done | exact rfl)) ?_
    simp only [List.set_cons_succ, List.set_cons_zero]
    refine lin_if (i := 22) (v := .bool false) ((decl_Bucket x1 x0.buckets) == (decl_Bucket x2 x0.buckets)) rfl rfl (by generalize ((decl_Bucket x1 x0.buckets) == (decl_Bucket x2 x0.buckets)) = gg0; cases gg0 <;> rfl) (by intro hb; have hb159 := hid (show (((decl_Bucket x1 x0.buckets) == (decl_Bucket x2 x0.buckets))) = true from hb); intro x hx; (try simp only [hb]); (try simp only [cond_true]); go_simp; (first | done | exact rfl)) ?_
    simp only [List.set_cons_succ, List.set_cons_zero]
    refine lin_if (i := 23) (v := .int .u64 (tn (x1))) ((decl_Bucket x1 x0.buckets) == (decl_Bucket x2 x0.buckets)) rfl rfl (by generalize ((decl_Bucket x1 x0.buckets) == (decl_Bucket x2 x0.buckets)) = gg0; cases gg0 <;> rfl) (by intro hb; have hb160 := hid (show (((decl_Bucket x1 x0.buckets) == (decl_Bucket x2 x0.buckets))) = true from hb); intro x hx; (try simp only [hb]); (try simp only [cond_true]); go_simp; (first | done | exact rfl)) ?_
    simp only [List.set_cons_succ, List.set_cons_zero]
    refine lin_if (i := 24) (v := .int .u64 (tn (x2))) ((decl_Bucket x1 x0.buckets) == (decl_Bucket x2 x0.buckets)) rfl rfl (by generalize ((decl_Bucket x1 x0.buckets) == (decl_Bucket x2 x0.buckets)) = gg0; cases gg0 <;> rfl) (by intro hb; have hb161 := hid (show (((decl_Bucket x1 x0.buckets) == (decl_Bucket x2 x0.buckets))) = true from hb); intro x hx; (try simp only [hb]); (try simp only [cond_true]); go_simp; (first | done | exact rfl)) ?_
    simp only [List.set_cons_succ, List.set_cons_zero]
    refine lin_if (i := 25) (v := .bool (ltU x1 x2)) ((decl_Bucket x1 x0.buckets) == (decl_Bucket x2 x0.buckets)) rfl rfl (by generalize ((decl_Bucket x1 x0.buckets) == (decl_Bucket x2 x0.buckets)) = gg0; cases gg0 <;> rfl) (by intro hb; have hb162 := hid (show (((decl_Bucket x1 x0.buckets) == (decl_Bucket x2 x0.buckets))) = true from hb); intro x hx; (try simp only [hb]); (try simp only [cond_true]); go_simp; (first | done | exact ltUT x1 x2 | exact congrArg _ (ltUT x1 x2) | (rw [ltUT x1 x2]; done) | (rw [ltUT x1 x2]; rfl))) ?_
    simp only [List.set_cons_succ, List.set_cons_zero]
    refine lin_if (i := 26) (v := .bool ((false != (ltU x1 x2)))) ((decl_Bucket x1 x0.buckets) == (decl_Bucket x2 x0.buckets)) rfl rfl (by generalize ((decl_Bucket x1 x0.buckets) == (decl_Bucket x2 x0.buckets)) = gg0; cases gg0 <;> rfl) (by intro hb; have hb163 := hid (show (((decl_Bucket x1 x0.buckets) == (decl_Bucket x2 x0.buckets))) = true from hb); intro x hx; (try simp only [hb]); (try simp only [cond_true]); go_simp; (first | done | exact neB false (ltU x1 x2) | exact congrArg _ (neB false (ltU x1 x2)) | (rw [neB false (ltU x1 x2)]; done) | (rw [neB false (ltU x1 x2)]; rfl))) ?_
    simp only [List.set_cons_succ, List.set_cons_zero]
    refine lin_val (i := 27) (v := .bool ((bif ((decl_Bucket x1 x0.buckets) == (decl_Bucket x2 x0.buckets)) then (false != (ltU x1 x2)) else false))) rfl rfl (by rfl) (by intro x hx; (cases hq : (((decl_Bucket x1 x0.buckets) == (decl_Bucket x2 x0.buckets))) <;> first | rfl | (simp only [hq]; rfl) | simp [hq])) ?_
    simp only [List.set_cons_succ, List.set_cons_zero]
    refine lin_val (i := 28) (v := .bool ((bif ((decl_Bucket x1 x0.buckets) == (decl_Bucket x2 x0.buckets)) then (false != (ltU x1 x2)) else false))) rfl rfl (by rfl) (by intro x hx; go_simp; (first | done | exact rfl)) ?_
    simp only [List.set_cons_succ, List.set_cons_zero]
    refine lin_done ?_
    intro W7 hx
    replace HS := hid hx
    clear hx
    rw [show ((bif ((decl_Bucket x1 x0.buckets) == (decl_Bucket x2 x0.buckets)) then (false != (ltU x1 x2)) else false)) = false from hash_eq (v := false) h1.out Hq1.out]
    -- region 10
    go_upto_region 10 with fail
    refine lin_begin (St w [⟨w.heap.size, [some (.int .i64 (ti (x0.kind))), some (.int .i64 (ti (x0.entries))), some (.int .i64 (ti (x0.words))), some (.int .i64 (ti (x0.buckets))), some (.int .i64 (ti (x0.inner)))], 30⟩]) rfl HS.out ?_
    refine lin_call (i := 0) (f := 8) (args := #[]) (v := .bool true) (st_ups _ _) rfl rfl (by rfl) (fun x hx => by kernel_rfl) (by intro x hx; exact law_works_any _ (HT.out.up hx.below)) ?_
    simp only [List.set_cons_succ, List.set_cons_zero]
    refine lin_val (i := 1) (v := .bool true) rfl rfl (by rfl) (by intro x hx; go_simp; (first | done | exact rfl)) ?_
    simp only [List.set_cons_succ, List.set_cons_zero]
    refine lin_done ?_
    intro W8 hx
    replace HS := hid hx
    clear hx
    go_wp2
    exact bodyPost_ret (v := .bool true) (by simp [results, Tryd.results5, go_sem]) rfl ⟨rfl, HS.out.below⟩
set_option maxRecDepth 100000 in
set_option maxHeartbeats 4000000 in
theorem order_4 (x0 : Dc) (x1 : BitVec 64) (x2 : BitVec 64) (x3 : BitVec 64)   (q1 : (decl_Ahead x0 x1 x2) = false) (q2 : (decl_Ahead x0 x2 x1) = false) (q3 : (x1 != x2) = false)  (w : World) (hT : Tn.Tab w) :
    Calls Tryd.prog 5 #[.agg #[.int .i64 (ti (x0.kind)), .int .i64 (ti (x0.entries)), .int .i64 (ti (x0.words)), .int .i64 (ti (x0.buckets)), .int .i64 (ti (x0.inner))], .int .u64 (tn (x1)), .int .u64 (tn (x2)), .int .u64 (tn (x3))] w fun e w' => e = .returned (.bool true) ∧ Below w.heap.size w w' := by
  have HT := hid hT
  clear hT
  have Hq1 := hid q1
  clear q1
  have Hq2 := hid q2
  clear q2
  have Hq3 := hid q3
  clear q3
  go_enter Tryd.func5, Tryd.ntmps5
  have HS := hid ((st_nil w).alloc (k := w.heap.size) rfl [.int .i64 (ti (x0.kind)), .int .i64 (ti (x0.entries)), .int .i64 (ti (x0.words)), .int .i64 (ti (x0.buckets)), .int .i64 (ti (x0.inner))] 30)
  -- region 1
  go_upto_region 1 with fail
  refine lin_begin (St w [⟨w.heap.size, [some (.int .i64 (ti (x0.kind))), some (.int .i64 (ti (x0.entries))), some (.int .i64 (ti (x0.words))), some (.int .i64 (ti (x0.buckets))), some (.int .i64 (ti (x0.inner)))], 30⟩]) rfl HS.out ?_
  refine lin_val (i := 0) (v := .agg #[.int .i64 (ti (x0.kind)), .int .i64 (ti (x0.entries)), .int .i64 (ti (x0.words)), .int .i64 (ti (x0.buckets)), .int .i64 (ti (x0.inner))]) rfl rfl (by rfl) (by intro x hx; have f0 := hx.load 0 0 rfl rfl; have f1 := hx.load 0 1 rfl rfl; have f2 := hx.load 0 2 rfl rfl; have f3 := hx.load 0 3 rfl rfl; have f4 := hx.load 0 4 rfl rfl; go_simp; (first | done | exact rfl)) ?_
  simp only [List.set_cons_succ, List.set_cons_zero]
  refine lin_val (i := 1) (v := .int .u64 (tn (x1))) rfl rfl (by rfl) (by intro x hx; go_simp; (first | done | exact rfl)) ?_
  simp only [List.set_cons_succ, List.set_cons_zero]
  refine lin_val (i := 2) (v := .int .u64 (tn (x2))) rfl rfl (by rfl) (by intro x hx; go_simp; (first | done | exact rfl)) ?_
  simp only [List.set_cons_succ, List.set_cons_zero]
  refine lin_call (i := 3) (f := 21) (args := #[.agg #[.int .i64 (ti (x0.kind)), .int .i64 (ti (x0.entries)), .int .i64 (ti (x0.words)), .int .i64 (ti (x0.buckets)), .int .i64 (ti (x0.inner))], .int .u64 (tn (x1)), .int .u64 (tn (x2))]) (v := .bool false) (st_ups _ _) rfl rfl (by rfl) (fun x hx => by kernel_rfl) (by intro x hx; exact calls_is (decl_Ahead_any x0 x1 x2 _ (HT.out.up hx.below)) (congrArg Value.bool (Hq1.out))) ?_
  simp only [List.set_cons_succ, List.set_cons_zero]
  refine lin_val (i := 4) (v := .bool false) rfl rfl (by rfl) (by intro x hx; go_simp; (first | done | exact rfl)) ?_
  simp only [List.set_cons_succ, List.set_cons_zero]
  refine lin_done ?_
  intro W1 hx
  replace HS := hid hx
  clear hx
  -- region 2
  go_upto_region 2 with fail
  refine lin_begin (St w [⟨w.heap.size, [some (.int .i64 (ti (x0.kind))), some (.int .i64 (ti (x0.entries))), some (.int .i64 (ti (x0.words))), some (.int .i64 (ti (x0.buckets))), some (.int .i64 (ti (x0.inner)))], 30⟩]) rfl HS.out ?_
  refine lin_val (i := 0) (v := .agg #[.int .i64 (ti (x0.kind)), .int .i64 (ti (x0.entries)), .int .i64 (ti (x0.words)), .int .i64 (ti (x0.buckets)), .int .i64 (ti (x0.inner))]) rfl rfl (by rfl) (by intro x hx; have f0 := hx.load 0 0 rfl rfl; have f1 := hx.load 0 1 rfl rfl; have f2 := hx.load 0 2 rfl rfl; have f3 := hx.load 0 3 rfl rfl; have f4 := hx.load 0 4 rfl rfl; go_simp; (first | done | exact rfl)) ?_
  simp only [List.set_cons_succ, List.set_cons_zero]
  refine lin_val (i := 1) (v := .int .u64 (tn (x2))) rfl rfl (by rfl) (by intro x hx; go_simp; (first | done | exact rfl)) ?_
  simp only [List.set_cons_succ, List.set_cons_zero]
  refine lin_val (i := 2) (v := .int .u64 (tn (x1))) rfl rfl (by rfl) (by intro x hx; go_simp; (first | done | exact rfl)) ?_
  simp only [List.set_cons_succ, List.set_cons_zero]
  refine lin_call (i := 3) (f := 21) (args := #[.agg #[.int .i64 (ti (x0.kind)), .int .i64 (ti (x0.entries)), .int .i64 (ti (x0.words)), .int .i64 (ti (x0.buckets)), .int .i64 (ti (x0.inner))], .int .u64 (tn (x2)), .int .u64 (tn (x1))]) (v := .bool false) (st_ups _ _) rfl rfl (by rfl) (fun x hx => by kernel_rfl) (by intro x hx; exact calls_is (decl_Ahead_any x0 x2 x1 _ (HT.out.up hx.below)) (congrArg Value.bool (Hq2.out))) ?_
  simp only [List.set_cons_succ, List.set_cons_zero]
  refine lin_val (i := 4) (v := .bool false) rfl rfl (by rfl) (by intro x hx; go_simp; (first | done | exact rfl)) ?_
  simp only [List.set_cons_succ, List.set_cons_zero]
  refine lin_done ?_
  intro W2 hx
  replace HS := hid hx
  clear hx
  -- region 3
  go_upto_region 3 with fail
  refine lin_begin (St w [⟨w.heap.size, [some (.int .i64 (ti (x0.kind))), some (.int .i64 (ti (x0.entries))), some (.int .i64 (ti (x0.words))), some (.int .i64 (ti (x0.buckets))), some (.int .i64 (ti (x0.inner)))], 30⟩]) rfl HS.out ?_
  refine lin_val (i := 0) (v := .bool false) rfl rfl (by rfl) (by intro x hx; go_simp; (first | done | exact rfl)) ?_
  simp only [List.set_cons_succ, List.set_cons_zero]
  refine lin_val (i := 1) (v := .bool false) rfl rfl (by rfl) (by intro x hx; go_simp; (first | done | exact rfl)) ?_
  simp only [List.set_cons_succ, List.set_cons_zero]
  refine lin_no (i := 2) rfl rfl (by kernel_rfl) ?_
  simp only [List.set_cons_succ, List.set_cons_zero]
  refine lin_val (i := 3) (v := .bool false) rfl rfl (by rfl) (by intro x hx; go_simp; (first | done | exact rfl)) ?_
  simp only [List.set_cons_succ, List.set_cons_zero]
  refine lin_val (i := 4) (v := .bool false) rfl rfl (by rfl) (by intro x hx; go_simp; (first | done | exact rfl)) ?_
  simp only [List.set_cons_succ, List.set_cons_zero]
  refine lin_val (i := 5) (v := .bool false) rfl rfl (by rfl) (by intro x hx; go_simp; (first | done | exact rfl)) ?_
  simp only [List.set_cons_succ, List.set_cons_zero]
  refine lin_val (i := 6) (v := .bool false) rfl rfl (by rfl) (by intro x hx; go_simp; (first | done | exact rfl)) ?_
  simp only [List.set_cons_succ, List.set_cons_zero]
  refine lin_val (i := 7) (v := .bool false) rfl rfl (by rfl) (by intro x hx; go_simp; (first | done | exact rfl)) ?_
  simp only [List.set_cons_succ, List.set_cons_zero]
  refine lin_val (i := 8) (v := .bool false) rfl rfl (by rfl) (by intro x hx; go_simp; (first | done | exact rfl)) ?_
  simp only [List.set_cons_succ, List.set_cons_zero]
  refine lin_val (i := 9) (v := .int .u64 (tn (x1))) rfl rfl (by rfl) (by intro x hx; go_simp; (first | done | exact rfl)) ?_
  simp only [List.set_cons_succ, List.set_cons_zero]
  refine lin_val (i := 10) (v := .int .u64 (tn (x2))) rfl rfl (by rfl) (by intro x hx; go_simp; (first | done | exact rfl)) ?_
  simp only [List.set_cons_succ, List.set_cons_zero]
  refine lin_val (i := 11) (v := .bool false) rfl rfl (by rfl) (by intro x hx; go_simp; (first | done | (first | exact Hq3.out | exact eq_of_beq (Hq3.out) | exact congrArg _ (Hq3.out) | (rw [Hq3.out]; done) | ((first | rfl | exact neUT x1 x2 | exact congrArg _ (neUT x1 x2) | (rw [neUT x1 x2]; done) | (rw [neUT x1 x2]; rfl)); rw [Hq3.out]) | exact congrArg tn (eq_of_beq (Hq3.out)) | exact congrArg ti (eq_of_beq (Hq3.out)) | exact congrArg tn (eq_of_bne (Hq3.out)) | simpa using (Hq3.out)))) ?_
  simp only [List.set_cons_succ, List.set_cons_zero]
  refine lin_val (i := 12) (v := .bool false) rfl rfl (by rfl) (by intro x hx; go_simp; (first | done | rfl | simp)) ?_
  simp only [List.set_cons_succ, List.set_cons_zero]
  refine lin_val (i := 13) (v := .bool false) rfl rfl (by rfl) (by intro x hx; go_simp; (first | done | exact rfl)) ?_
  simp only [List.set_cons_succ, List.set_cons_zero]
  refine lin_val (i := 14) (v := .bool false) rfl rfl (by rfl) (by intro x hx; go_simp; (first | done | exact rfl)) ?_
  simp only [List.set_cons_succ, List.set_cons_zero]
  refine lin_val (i := 15) (v := .bool false) rfl rfl (by rfl) (by intro x hx; go_simp; (first | done | exact rfl)) ?_
  simp only [List.set_cons_succ, List.set_cons_zero]
  refine lin_val (i := 16) (v := .bool false) rfl rfl (by rfl) (by intro x hx; go_simp; (first | done | exact rfl)) ?_
  simp only [List.set_cons_succ, List.set_cons_zero]
  refine lin_no (i := 17) rfl rfl (by kernel_rfl) ?_
  simp only [List.set_cons_succ, List.set_cons_zero]
  refine lin_no (i := 18) rfl rfl (by kernel_rfl) ?_
  simp only [List.set_cons_succ, List.set_cons_zero]
  refine lin_no (i := 19) rfl rfl (by kernel_rfl) ?_
  simp only [List.set_cons_succ, List.set_cons_zero]
  refine lin_no (i := 20) rfl rfl (by kernel_rfl) ?_
  simp only [List.set_cons_succ, List.set_cons_zero]
  refine lin_val (i := 21) (v := .bool false) rfl rfl (by rfl) (by intro x hx; go_simp; (first | done | exact rfl)) ?_
  simp only [List.set_cons_succ, List.set_cons_zero]
  refine lin_val (i := 22) (v := .bool false) rfl rfl (by rfl) (by intro x hx; go_simp; (first | done | exact rfl)) ?_
  simp only [List.set_cons_succ, List.set_cons_zero]
  refine lin_no (i := 23) rfl rfl (by kernel_rfl) ?_
  simp only [List.set_cons_succ, List.set_cons_zero]
  refine lin_no (i := 24) rfl rfl (by kernel_rfl) ?_
  simp only [List.set_cons_succ, List.set_cons_zero]
  refine lin_no (i := 25) rfl rfl (by kernel_rfl) ?_
  simp only [List.set_cons_succ, List.set_cons_zero]
  refine lin_no (i := 26) rfl rfl (by kernel_rfl) ?_
  simp only [List.set_cons_succ, List.set_cons_zero]
  refine lin_no (i := 27) rfl rfl (by kernel_rfl) ?_
  simp only [List.set_cons_succ, List.set_cons_zero]
  refine lin_val (i := 28) (v := .bool false) rfl rfl (by rfl) (by intro x hx; go_simp; (first | done | exact rfl)) ?_
  simp only [List.set_cons_succ, List.set_cons_zero]
  refine lin_val (i := 29) (v := .bool false) rfl rfl (by rfl) (by intro x hx; go_simp; (first | done | exact rfl)) ?_
  simp only [List.set_cons_succ, List.set_cons_zero]
  refine lin_done ?_
  intro W3 hx
  replace HS := hid hx
  clear hx
  -- region 5
  go_upto_region 5 with fail
  refine lin_begin (St w [⟨w.heap.size, [some (.int .i64 (ti (x0.kind))), some (.int .i64 (ti (x0.entries))), some (.int .i64 (ti (x0.words))), some (.int .i64 (ti (x0.buckets))), some (.int .i64 (ti (x0.inner)))], 30⟩]) rfl HS.out ?_
  refine lin_val (i := 0) (v := .pointer (some ⟨w.heap.size, 0, none⟩)) rfl rfl (by rfl) (by intro x hx; go_simp; (first | done | exact rfl)) ?_
  simp only [List.set_cons_succ, List.set_cons_zero]
  refine lin_val (i := 1) (v := .int .i64 (ti (x0.kind))) rfl rfl (by rfl) (by intro x hx; have f0 := hx.load 0 0 rfl rfl; go_simp; (first | done | exact rfl)) ?_
  simp only [List.set_cons_succ, List.set_cons_zero]
  refine lin_val (i := 2) (v := .bool ((x0.kind == 4#64))) rfl rfl (by rfl) (by intro x hx; go_simp; (first | done | exact eqIT x0.kind 4#64 | exact congrArg _ (eqIT x0.kind 4#64) | (rw [eqIT x0.kind 4#64]; done) | (rw [eqIT x0.kind 4#64]; rfl))) ?_
  simp only [List.set_cons_succ, List.set_cons_zero]
  refine lin_val (i := 3) (v := .bool ((x0.kind == 4#64))) rfl rfl (by rfl) (by intro x hx; go_simp; (first | done | exact rfl)) ?_
  simp only [List.set_cons_succ, List.set_cons_zero]
  refine lin_if (i := 4) (v := .pointer (some ⟨w.heap.size, 3, none⟩)) (x0.kind == 4#64) rfl rfl (by generalize (x0.kind == 4#64) = gg0; cases gg0 <;> rfl) (by intro hb; have hb164 := hid (show ((x0.kind == 4#64)) = true from hb); intro x hx; (try simp only [hb]); (try simp only [cond_true]); go_simp; (first | done | exact rfl)) ?_
  simp only [List.set_cons_succ, List.set_cons_zero]
  refine lin_if (i := 5) (v := .int .i64 (ti (x0.buckets))) (x0.kind == 4#64) rfl rfl (by generalize (x0.kind == 4#64) = gg0; cases gg0 <;> rfl) (by intro hb; have hb165 := hid (show ((x0.kind == 4#64)) = true from hb); intro x hx; (try simp only [hb]); (try simp only [cond_true]); have f0 := hx.load 0 3 rfl rfl; go_simp; (first | done | exact rfl)) ?_
  simp only [List.set_cons_succ, List.set_cons_zero]
  refine lin_if (i := 6) (v := .bool (geI x0.buckets 1#64)) (x0.kind == 4#64) rfl rfl (by generalize (x0.kind == 4#64) = gg0; cases gg0 <;> rfl) (by intro hb; have hb166 := hid (show ((x0.kind == 4#64)) = true from hb); intro x hx; (try simp only [hb]); (try simp only [cond_true]); go_simp; (first | done | exact geIT x0.buckets 1#64 | exact congrArg _ (geIT x0.buckets 1#64) | (rw [geIT x0.buckets 1#64]; done) | (rw [geIT x0.buckets 1#64]; rfl))) ?_
  simp only [List.set_cons_succ, List.set_cons_zero]
  refine lin_val (i := 7) (v := .bool ((bif (x0.kind == 4#64) then geI x0.buckets 1#64 else false))) rfl rfl (by rfl) (by intro x hx; (cases hq : ((x0.kind == 4#64)) <;> first | rfl | (simp only [hq]; rfl) | simp [hq])) ?_
  simp only [List.set_cons_succ, List.set_cons_zero]
  refine lin_done ?_
  intro W4 hx
  replace HS := hid hx
  clear hx
  cases h1 : ((bif (x0.kind == 4#64) then geI x0.buckets 1#64 else false))
  · replace h1 := hid h1
    -- region 10
    go_upto_region 10 with fail
    refine lin_begin (St w [⟨w.heap.size, [some (.int .i64 (ti (x0.kind))), some (.int .i64 (ti (x0.entries))), some (.int .i64 (ti (x0.words))), some (.int .i64 (ti (x0.buckets))), some (.int .i64 (ti (x0.inner)))], 30⟩]) rfl HS.out ?_
    refine lin_call (i := 0) (f := 8) (args := #[]) (v := .bool true) (st_ups _ _) rfl rfl (by rfl) (fun x hx => by kernel_rfl) (by intro x hx; exact law_works_any _ (HT.out.up hx.below)) ?_
    simp only [List.set_cons_succ, List.set_cons_zero]
    refine lin_val (i := 1) (v := .bool true) rfl rfl (by rfl) (by intro x hx; go_simp; (first | done | exact rfl)) ?_
    simp only [List.set_cons_succ, List.set_cons_zero]
    refine lin_done ?_
    intro W5 hx
    replace HS := hid hx
    clear hx
    go_wp2
    exact bodyPost_ret (v := .bool true) (by simp [results, Tryd.results5, go_sem]) rfl ⟨rfl, HS.out.below⟩
  · replace h1 := hid h1
    -- region 6
    go_upto_region 6 with fail
    refine lin_begin (St w [⟨w.heap.size, [some (.int .i64 (ti (x0.kind))), some (.int .i64 (ti (x0.entries))), some (.int .i64 (ti (x0.words))), some (.int .i64 (ti (x0.buckets))), some (.int .i64 (ti (x0.inner)))], 30⟩]) rfl HS.out ?_
    refine lin_val (i := 0) (v := .int .u64 (tn (x1))) rfl rfl (by rfl) (by intro x hx; go_simp; (first | done | exact rfl)) ?_
    simp only [List.set_cons_succ, List.set_cons_zero]
    refine lin_val (i := 1) (v := .pointer (some ⟨w.heap.size, 3, none⟩)) rfl rfl (by rfl) (by intro x hx; go_simp; (first | done | exact rfl)) ?_
    simp only [List.set_cons_succ, List.set_cons_zero]
    refine lin_val (i := 2) (v := .int .i64 (ti (x0.buckets))) rfl rfl (by rfl) (by intro x hx; have f0 := hx.load 0 3 rfl rfl; go_simp; (first | done | exact rfl)) ?_
    simp only [List.set_cons_succ, List.set_cons_zero]
    refine lin_call (i := 3) (f := 19) (args := #[.int .u64 (tn (x1)), .int .i64 (ti (x0.buckets))]) (v := .int .i64 (ti (decl_Bucket x1 x0.buckets))) (st_ups _ _) rfl rfl (by rfl) (fun x hx => by kernel_rfl) (by intro x hx; exact decl_Bucket_any x1 x0.buckets _) ?_
    simp only [List.set_cons_succ, List.set_cons_zero]
    refine lin_val (i := 4) (v := .int .i64 (ti (decl_Bucket x1 x0.buckets))) rfl rfl (by rfl) (by intro x hx; go_simp; (first | done | exact rfl)) ?_
    simp only [List.set_cons_succ, List.set_cons_zero]
    refine lin_done ?_
    intro W5 hx
    replace HS := hid hx
    clear hx
    -- region 7
    go_upto_region 7 with fail
    refine lin_begin (St w [⟨w.heap.size, [some (.int .i64 (ti (x0.kind))), some (.int .i64 (ti (x0.entries))), some (.int .i64 (ti (x0.words))), some (.int .i64 (ti (x0.buckets))), some (.int .i64 (ti (x0.inner)))], 30⟩]) rfl HS.out ?_
    refine lin_val (i := 0) (v := .int .u64 (tn (x2))) rfl rfl (by rfl) (by intro x hx; go_simp; (first | done | exact rfl)) ?_
    simp only [List.set_cons_succ, List.set_cons_zero]
    refine lin_val (i := 1) (v := .pointer (some ⟨w.heap.size, 3, none⟩)) rfl rfl (by rfl) (by intro x hx; go_simp; (first | done | exact rfl)) ?_
    simp only [List.set_cons_succ, List.set_cons_zero]
    refine lin_val (i := 2) (v := .int .i64 (ti (x0.buckets))) rfl rfl (by rfl) (by intro x hx; have f0 := hx.load 0 3 rfl rfl; go_simp; (first | done | exact rfl)) ?_
    simp only [List.set_cons_succ, List.set_cons_zero]
    refine lin_call (i := 3) (f := 19) (args := #[.int .u64 (tn (x2)), .int .i64 (ti (x0.buckets))]) (v := .int .i64 (ti (decl_Bucket x2 x0.buckets))) (st_ups _ _) rfl rfl (by rfl) (fun x hx => by kernel_rfl) (by intro x hx; exact decl_Bucket_any x2 x0.buckets _) ?_
    simp only [List.set_cons_succ, List.set_cons_zero]
    refine lin_val (i := 4) (v := .int .i64 (ti (decl_Bucket x2 x0.buckets))) rfl rfl (by rfl) (by intro x hx; go_simp; (first | done | exact rfl)) ?_
    simp only [List.set_cons_succ, List.set_cons_zero]
    refine lin_done ?_
    intro W6 hx
    replace HS := hid hx
    clear hx
    -- region 8
    go_upto_region 8 with fail
    refine lin_begin (St w [⟨w.heap.size, [some (.int .i64 (ti (x0.kind))), some (.int .i64 (ti (x0.entries))), some (.int .i64 (ti (x0.words))), some (.int .i64 (ti (x0.buckets))), some (.int .i64 (ti (x0.inner)))], 30⟩]) rfl HS.out ?_
    refine lin_val (i := 0) (v := .int .i64 (ti (decl_Bucket x1 x0.buckets))) rfl rfl (by rfl) (by intro x hx; go_simp; (first | done | exact rfl)) ?_
    simp only [List.set_cons_succ, List.set_cons_zero]
    refine lin_val (i := 1) (v := .bool false) rfl rfl (by rfl) (by intro x hx; go_simp; (first | done | (first | exact Int.not_lt.1 (of_decide_eq_false (hash_lo x1 h1.out)) | exact hash_lo x1 h1.out | exact eq_of_beq (hash_lo x1 h1.out) | exact congrArg _ (hash_lo x1 h1.out) | (rw [hash_lo x1 h1.out]; done) | ((first | rfl | exact ltIT (decl_Bucket x1 x0.buckets) 0#64 | exact congrArg _ (ltIT (decl_Bucket x1 x0.buckets) 0#64) | (rw [ltIT (decl_Bucket x1 x0.buckets) 0#64]; done) | (rw [ltIT (decl_Bucket x1 x0.buckets) 0#64]; rfl)); rw [hash_lo x1 h1.out]) | exact congrArg tn (eq_of_beq (hash_lo x1 h1.out)) | exact congrArg ti (eq_of_beq (hash_lo x1 h1.out)) | exact congrArg tn (eq_of_bne (hash_lo x1 h1.out)) | simpa using (hash_lo x1 h1.out)))) ?_
    simp only [List.set_cons_succ, List.set_cons_zero]
    refine lin_val (i := 2) (v := .bool false) rfl rfl (by rfl) (by intro x hx; go_simp; (first | done | exact rfl)) ?_
    simp only [List.set_cons_succ, List.set_cons_zero]
    refine lin_val (i := 3) (v := .int .i64 (ti (decl_Bucket x1 x0.buckets))) rfl rfl (by rfl) (by intro x hx; go_simp; (first | done | exact rfl)) ?_
    simp only [List.set_cons_succ, List.set_cons_zero]
    refine lin_val (i := 4) (v := .pointer (some ⟨w.heap.size, 3, none⟩)) rfl rfl (by rfl) (by intro x hx; go_simp; (first | done | exact rfl)) ?_
    simp only [List.set_cons_succ, List.set_cons_zero]
    refine lin_val (i := 5) (v := .int .i64 (ti (x0.buckets))) rfl rfl (by rfl) (by intro x hx; have f0 := hx.load 0 3 rfl rfl; go_simp; (first | done | exact rfl)) ?_
    simp only [List.set_cons_succ, List.set_cons_zero]
    refine lin_val (i := 6) (v := .bool false) rfl rfl (by rfl) (by intro x hx; go_simp; (first | done | (first | exact Int.not_le.1 (of_decide_eq_false (hash_hi x1 h1.out)) | exact hash_hi x1 h1.out | exact eq_of_beq (hash_hi x1 h1.out) | exact congrArg _ (hash_hi x1 h1.out) | (rw [hash_hi x1 h1.out]; done) | ((first | rfl | exact geIT (decl_Bucket x1 x0.buckets) x0.buckets | exact congrArg _ (geIT (decl_Bucket x1 x0.buckets) x0.buckets) | (rw [geIT (decl_Bucket x1 x0.buckets) x0.buckets]; done) | (rw [geIT (decl_Bucket x1 x0.buckets) x0.buckets]; rfl)); rw [hash_hi x1 h1.out]) | exact congrArg tn (eq_of_beq (hash_hi x1 h1.out)) | exact congrArg ti (eq_of_beq (hash_hi x1 h1.out)) | exact congrArg tn (eq_of_bne (hash_hi x1 h1.out)) | simpa using (hash_hi x1 h1.out)))) ?_
    simp only [List.set_cons_succ, List.set_cons_zero]
    refine lin_val (i := 7) (v := .bool false) rfl rfl (by rfl) (by intro x hx; go_simp; (first | done | exact rfl)) ?_
    simp only [List.set_cons_succ, List.set_cons_zero]
    refine lin_val (i := 8) (v := .bool false) rfl rfl (by rfl) (by intro x hx; go_simp; (first | done | exact rfl)) ?_
    simp only [List.set_cons_succ, List.set_cons_zero]
    refine lin_val (i := 9) (v := .int .i64 (ti (decl_Bucket x1 x0.buckets))) rfl rfl (by rfl) (by intro x hx; go_simp; (first | done | exact rfl)) ?_
    simp only [List.set_cons_succ, List.set_cons_zero]
    refine lin_val (i := 10) (v := .int .i64 (ti (decl_Bucket x2 x0.buckets))) rfl rfl (by rfl) (by intro x hx; go_simp; (first | done | exact rfl)) ?_
    simp only [List.set_cons_succ, List.set_cons_zero]
    refine lin_val (i := 11) (v := .bool false) rfl rfl (by rfl) (by intro x hx; go_simp; (first | done | (first | exact Int.not_lt.1 (of_decide_eq_false (hash_lt h1.out Hq1.out)) | exact hash_lt h1.out Hq1.out | exact eq_of_beq (hash_lt h1.out Hq1.out) | exact congrArg _ (hash_lt h1.out Hq1.out) | (rw [hash_lt h1.out Hq1.out]; done) | ((first | rfl | exact ltIT (decl_Bucket x1 x0.buckets) (decl_Bucket x2 x0.buckets) | exact congrArg _ (ltIT (decl_Bucket x1 x0.buckets) (decl_Bucket x2 x0.buckets)) | (rw [ltIT (decl_Bucket x1 x0.buckets) (decl_Bucket x2 x0.buckets)]; done) | (rw [ltIT (decl_Bucket x1 x0.buckets) (decl_Bucket x2 x0.buckets)]; rfl)); rw [hash_lt h1.out Hq1.out]) | exact congrArg tn (eq_of_beq (hash_lt h1.out Hq1.out)) | exact congrArg ti (eq_of_beq (hash_lt h1.out Hq1.out)) | exact congrArg tn (eq_of_bne (hash_lt h1.out Hq1.out)) | simpa using (hash_lt h1.out Hq1.out)))) ?_
    simp only [List.set_cons_succ, List.set_cons_zero]
    refine lin_val (i := 12) (v := .bool false) rfl rfl (by rfl) (by intro x hx; go_simp; (first | done | exact rfl)) ?_
    simp only [List.set_cons_succ, List.set_cons_zero]
    refine lin_no (i := 13) rfl rfl (by kernel_rfl) ?_
    simp only [List.set_cons_succ, List.set_cons_zero]
    refine lin_no (i := 14) rfl rfl (by kernel_rfl) ?_
    simp only [List.set_cons_succ, List.set_cons_zero]
    refine lin_val (i := 15) (v := .bool false) rfl rfl (by rfl) (by intro x hx; go_simp; (first | done | exact rfl)) ?_
    simp only [List.set_cons_succ, List.set_cons_zero]
    refine lin_val (i := 16) (v := .bool false) rfl rfl (by rfl) (by intro x hx; go_simp; (first | done | exact rfl)) ?_
    simp only [List.set_cons_succ, List.set_cons_zero]
    refine lin_val (i := 17) (v := .bool false) rfl rfl (by rfl) (by intro x hx; go_simp; (first | done | exact rfl)) ?_
    simp only [List.set_cons_succ, List.set_cons_zero]
    refine lin_val (i := 18) (v := .int .i64 (ti (decl_Bucket x1 x0.buckets))) rfl rfl (by rfl) (by intro x hx; go_simp; (first | done | exact rfl)) ?_
    simp only [List.set_cons_succ, List.set_cons_zero]
    refine lin_val (i := 19) (v := .int .i64 (ti (decl_Bucket x2 x0.buckets))) rfl rfl (by rfl) (by intro x hx; go_simp; (first | done | exact rfl)) ?_
    simp only [List.set_cons_succ, List.set_cons_zero]
    refine lin_val (i := 20) (v := .bool (((decl_Bucket x1 x0.buckets) == (decl_Bucket x2 x0.buckets)))) rfl rfl (by rfl) (by intro x hx; go_simp; (first | done | exact eqIT (decl_Bucket x1 x0.buckets) (decl_Bucket x2 x0.buckets) | exact congrArg _ (eqIT (decl_Bucket x1 x0.buckets) (decl_Bucket x2 x0.buckets)) | (rw [eqIT (decl_Bucket x1 x0.buckets) (decl_Bucket x2 x0.buckets)]; done) | (rw [eqIT (decl_Bucket x1 x0.buckets) (decl_Bucket x2 x0.buckets)]; rfl))) ?_
    simp only [List.set_cons_succ, List.set_cons_zero]
    refine lin_val (i := 21) (v := .bool (((decl_Bucket x1 x0.buckets) == (decl_Bucket x2 x0.buckets)))) rfl rfl (by rfl) (by intro x hx; go_simp; (first | done | exact rfl)) ?_
    simp only [List.set_cons_succ, List.set_cons_zero]
    refine lin_if (i := 22) (v := .bool false) ((decl_Bucket x1 x0.buckets) == (decl_Bucket x2 x0.buckets)) rfl rfl (by generalize ((decl_Bucket x1 x0.buckets) == (decl_Bucket x2 x0.buckets)) = gg0; cases gg0 <;> rfl) (by intro hb; have hb167 := hid (show (((decl_Bucket x1 x0.buckets) == (decl_Bucket x2 x0.buckets))) = true from hb); intro x hx; (try simp only [hb]); (try simp only [cond_true]); go_simp; (first | done | exact rfl)) ?_
    simp only [List.set_cons_succ, List.set_cons_zero]
    refine lin_if (i := 23) (v := .int .u64 (tn (x1))) ((decl_Bucket x1 x0.buckets) == (decl_Bucket x2 x0.buckets)) rfl rfl (by generalize ((decl_Bucket x1 x0.buckets) == (decl_Bucket x2 x0.buckets)) = gg0; cases gg0 <;> rfl) (by intro hb; have hb168 := hid (show (((decl_Bucket x1 x0.buckets) == (decl_Bucket x2 x0.buckets))) = true from hb); intro x hx; (try simp only [hb]); (try simp only [cond_true]); go_simp; (first | done | exact rfl)) ?_
    simp only [List.set_cons_succ, List.set_cons_zero]
    refine lin_if (i := 24) (v := .int .u64 (tn (x2))) ((decl_Bucket x1 x0.buckets) == (decl_Bucket x2 x0.buckets)) rfl rfl (by generalize ((decl_Bucket x1 x0.buckets) == (decl_Bucket x2 x0.buckets)) = gg0; cases gg0 <;> rfl) (by intro hb; have hb169 := hid (show (((decl_Bucket x1 x0.buckets) == (decl_Bucket x2 x0.buckets))) = true from hb); intro x hx; (try simp only [hb]); (try simp only [cond_true]); go_simp; (first | done | exact rfl)) ?_
    simp only [List.set_cons_succ, List.set_cons_zero]
    refine lin_if (i := 25) (v := .bool (ltU x1 x2)) ((decl_Bucket x1 x0.buckets) == (decl_Bucket x2 x0.buckets)) rfl rfl (by generalize ((decl_Bucket x1 x0.buckets) == (decl_Bucket x2 x0.buckets)) = gg0; cases gg0 <;> rfl) (by intro hb; have hb170 := hid (show (((decl_Bucket x1 x0.buckets) == (decl_Bucket x2 x0.buckets))) = true from hb); intro x hx; (try simp only [hb]); (try simp only [cond_true]); go_simp; (first | done | exact ltUT x1 x2 | exact congrArg _ (ltUT x1 x2) | (rw [ltUT x1 x2]; done) | (rw [ltUT x1 x2]; rfl))) ?_
    simp only [List.set_cons_succ, List.set_cons_zero]
    refine lin_if (i := 26) (v := .bool ((false != (ltU x1 x2)))) ((decl_Bucket x1 x0.buckets) == (decl_Bucket x2 x0.buckets)) rfl rfl (by generalize ((decl_Bucket x1 x0.buckets) == (decl_Bucket x2 x0.buckets)) = gg0; cases gg0 <;> rfl) (by intro hb; have hb171 := hid (show (((decl_Bucket x1 x0.buckets) == (decl_Bucket x2 x0.buckets))) = true from hb); intro x hx; (try simp only [hb]); (try simp only [cond_true]); go_simp; (first | done | exact neB false (ltU x1 x2) | exact congrArg _ (neB false (ltU x1 x2)) | (rw [neB false (ltU x1 x2)]; done) | (rw [neB false (ltU x1 x2)]; rfl))) ?_
    simp only [List.set_cons_succ, List.set_cons_zero]
    refine lin_val (i := 27) (v := .bool ((bif ((decl_Bucket x1 x0.buckets) == (decl_Bucket x2 x0.buckets)) then (false != (ltU x1 x2)) else false))) rfl rfl (by rfl) (by intro x hx; (cases hq : (((decl_Bucket x1 x0.buckets) == (decl_Bucket x2 x0.buckets))) <;> first | rfl | (simp only [hq]; rfl) | simp [hq])) ?_
    simp only [List.set_cons_succ, List.set_cons_zero]
    refine lin_val (i := 28) (v := .bool ((bif ((decl_Bucket x1 x0.buckets) == (decl_Bucket x2 x0.buckets)) then (false != (ltU x1 x2)) else false))) rfl rfl (by rfl) (by intro x hx; go_simp; (first | done | exact rfl)) ?_
    simp only [List.set_cons_succ, List.set_cons_zero]
    refine lin_done ?_
    intro W7 hx
    replace HS := hid hx
    clear hx
    rw [show ((bif ((decl_Bucket x1 x0.buckets) == (decl_Bucket x2 x0.buckets)) then (false != (ltU x1 x2)) else false)) = false from hash_eq (v := false) h1.out Hq1.out]
    -- region 10
    go_upto_region 10 with fail
    refine lin_begin (St w [⟨w.heap.size, [some (.int .i64 (ti (x0.kind))), some (.int .i64 (ti (x0.entries))), some (.int .i64 (ti (x0.words))), some (.int .i64 (ti (x0.buckets))), some (.int .i64 (ti (x0.inner)))], 30⟩]) rfl HS.out ?_
    refine lin_call (i := 0) (f := 8) (args := #[]) (v := .bool true) (st_ups _ _) rfl rfl (by rfl) (fun x hx => by kernel_rfl) (by intro x hx; exact law_works_any _ (HT.out.up hx.below)) ?_
    simp only [List.set_cons_succ, List.set_cons_zero]
    refine lin_val (i := 1) (v := .bool true) rfl rfl (by rfl) (by intro x hx; go_simp; (first | done | exact rfl)) ?_
    simp only [List.set_cons_succ, List.set_cons_zero]
    refine lin_done ?_
    intro W8 hx
    replace HS := hid hx
    clear hx
    go_wp2
    exact bodyPost_ret (v := .bool true) (by simp [results, Tryd.results5, go_sem]) rfl ⟨rfl, HS.out.below⟩
theorem declOrder (x0 : Dc) (x1 x2 x3 : BitVec 64) (w : World) (hT : Tn.Tab w) :
    Calls Tryd.prog 5 #[.agg #[.int .i64 (ti (x0.kind)), .int .i64 (ti (x0.entries)), .int .i64 (ti (x0.words)), .int .i64 (ti (x0.buckets)), .int .i64 (ti (x0.inner))], .int .u64 (tn x1), .int .u64 (tn x2), .int .u64 (tn x3)] w fun e w' => e = .returned (.bool true) ∧ Below w.heap.size w w' := by
  cases h1 : decl_Ahead x0 x1 x2
  · cases h3 : (x1 != x2)
    · have e : x1 = x2 := by simpa using h3
      exact order_4 x0 x1 x2 x3 h1 (by rw [e]; exact ahead_self x0 x2) h3 w hT
    · exact order_3 x0 x1 x2 x3 h1 (ahead_none h1 h3) h3 w hT
  · obtain ⟨h2, h3⟩ := ahead_flip h1
    cases h4 : decl_Ahead x0 x2 x3
    · exact order_2 x0 x1 x2 x3 h1 h2 h3 h4 w hT
    · exact order_1 x0 x1 x2 x3 h1 h2 h3 h4 (ahead_trans h1 h4) w hT
end Go.Proofs.YtejcjjimhaokfaaDoor.Dcl
