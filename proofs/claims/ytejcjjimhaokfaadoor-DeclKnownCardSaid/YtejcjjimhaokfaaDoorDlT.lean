/-
  The walk of the law DeclTells.
-/
import Derived.Test.YtejcjjimhaokfaaDoorDlW
namespace Go.Proofs.YtejcjjimhaokfaaDoor.Dcl
open Go.RowKit Go.Proofs.YtejcjjimhaokfaaDoor.Num Go.Proofs.YtejcjjimhaokfaaDoor.Up Go.Proofs.YtejcjjimhaokfaaDoor.Tn
set_option maxRecDepth 100000 in
set_option maxHeartbeats 4000000 in
theorem declTells (x0 : Dc) (x1 : Dc) (x2 : BitVec 64) (x3 : BitVec 64) (x4 : BitVec 64)    (w : World) (hT : Tn.Tab w) :
    Calls Tryd.prog 4 #[.agg #[.int .i64 (ti (x0.kind)), .int .i64 (ti (x0.entries)), .int .i64 (ti (x0.words)), .int .i64 (ti (x0.buckets)), .int .i64 (ti (x0.inner))], .agg #[.int .i64 (ti (x1.kind)), .int .i64 (ti (x1.entries)), .int .i64 (ti (x1.words)), .int .i64 (ti (x1.buckets)), .int .i64 (ti (x1.inner))], .int .u64 (tn (x2)), .int .u64 (tn (x3)), .int .i64 (ti (x4))] w fun e w' => e = .returned (.bool true) ∧ Below w.heap.size w w' := by
  have HT := hid hT
  clear hT
  go_enter Tryd.func4, Tryd.ntmps4
  have HS := hid (((st_nil w).alloc (k := w.heap.size) rfl [.int .i64 (ti (x0.kind)), .int .i64 (ti (x0.entries)), .int .i64 (ti (x0.words)), .int .i64 (ti (x0.buckets)), .int .i64 (ti (x0.inner))] 30).alloc (k := w.heap.size + 1) (by simp) [.int .i64 (ti (x1.kind)), .int .i64 (ti (x1.entries)), .int .i64 (ti (x1.words)), .int .i64 (ti (x1.buckets)), .int .i64 (ti (x1.inner))] 30)
  -- region 1
  go_upto_region 1 with fail
  refine lin_begin (St w [⟨w.heap.size, [some (.int .i64 (ti (x0.kind))), some (.int .i64 (ti (x0.entries))), some (.int .i64 (ti (x0.words))), some (.int .i64 (ti (x0.buckets))), some (.int .i64 (ti (x0.inner)))], 30⟩, ⟨w.heap.size + 1, [some (.int .i64 (ti (x1.kind))), some (.int .i64 (ti (x1.entries))), some (.int .i64 (ti (x1.words))), some (.int .i64 (ti (x1.buckets))), some (.int .i64 (ti (x1.inner)))], 30⟩]) rfl HS.out ?_
  refine lin_val (i := 0) (v := .int .u64 (tn (x2))) rfl rfl (by rfl) (by intro x hx; go_simp; (first | done | exact rfl)) ?_
  simp only [List.set_cons_succ, List.set_cons_zero]
  refine lin_val (i := 1) (v := .int .i64 (ti (x4))) rfl rfl (by rfl) (by intro x hx; go_simp; (first | done | exact rfl)) ?_
  simp only [List.set_cons_succ, List.set_cons_zero]
  refine lin_call (i := 2) (f := 13) (args := #[.int .u64 (tn (x2)), .int .i64 (ti (x4))]) (v := .tuple #[.int .i64 (ti ((decl_Bloom x2 x4).1)), .int .u64 (tn ((decl_Bloom x2 x4).2))]) (st_ups _ _) rfl rfl (by rfl) (fun x hx => by kernel_rfl) (by intro x hx; exact decl_Bloom_any x2 x4 _) ?_
  simp only [List.set_cons_succ, List.set_cons_zero]
  refine lin_val (i := 3) (v := .tuple #[.int .i64 (ti ((decl_Bloom x2 x4).1)), .int .u64 (tn ((decl_Bloom x2 x4).2))]) rfl rfl (by rfl) (by intro x hx; go_simp; (first | done | exact rfl)) ?_
  simp only [List.set_cons_succ, List.set_cons_zero]
  refine lin_val (i := 4) (v := .int .i64 (ti ((decl_Bloom x2 x4).1))) rfl rfl (by rfl) (by intro x hx; go_simp; (first | done | exact rfl)) ?_
  simp only [List.set_cons_succ, List.set_cons_zero]
  refine lin_val (i := 5) (v := .int .u64 (tn ((decl_Bloom x2 x4).2))) rfl rfl (by rfl) (by intro x hx; go_simp; (first | done | exact rfl)) ?_
  simp only [List.set_cons_succ, List.set_cons_zero]
  refine lin_val (i := 6) (v := .int .i64 (ti ((decl_Bloom x2 x4).1))) rfl rfl (by rfl) (by intro x hx; go_simp; (first | done | exact rfl)) ?_
  simp only [List.set_cons_succ, List.set_cons_zero]
  refine lin_val (i := 7) (v := .int .u64 (tn ((decl_Bloom x2 x4).2))) rfl rfl (by rfl) (by intro x hx; go_simp; (first | done | exact rfl)) ?_
  simp only [List.set_cons_succ, List.set_cons_zero]
  refine lin_done ?_
  intro W1 hx
  replace HS := hid hx
  clear hx
  -- region 2
  go_upto_region 2 with fail
  refine lin_begin (St w [⟨w.heap.size, [some (.int .i64 (ti (x0.kind))), some (.int .i64 (ti (x0.entries))), some (.int .i64 (ti (x0.words))), some (.int .i64 (ti (x0.buckets))), some (.int .i64 (ti (x0.inner)))], 30⟩, ⟨w.heap.size + 1, [some (.int .i64 (ti (x1.kind))), some (.int .i64 (ti (x1.entries))), some (.int .i64 (ti (x1.words))), some (.int .i64 (ti (x1.buckets))), some (.int .i64 (ti (x1.inner)))], 30⟩]) rfl HS.out ?_
  refine lin_val (i := 0) (v := .int .u64 (tn (x2))) rfl rfl (by rfl) (by intro x hx; go_simp; (first | done | exact rfl)) ?_
  simp only [List.set_cons_succ, List.set_cons_zero]
  refine lin_val (i := 1) (v := .int .i64 (ti (x4))) rfl rfl (by rfl) (by intro x hx; go_simp; (first | done | exact rfl)) ?_
  simp only [List.set_cons_succ, List.set_cons_zero]
  refine lin_call (i := 2) (f := 14) (args := #[.int .u64 (tn (x2)), .int .i64 (ti (x4))]) (v := .tuple #[.int .i64 (ti ((decl_Bloom x2 x4).1)), .int .u64 (tn ((decl_Bloom x2 x4).2))]) (st_ups _ _) rfl rfl (by rfl) (fun x hx => by kernel_rfl) (by intro x hx; exact calls_is (ref_Bloom_any x2 x4 _) (congrArg (fun rr : BitVec 64 × BitVec 64 => (.tuple #[.int .i64 (ti (rr.1)), .int .u64 (tn (rr.2))] : Value)) (bloom_is x2 x4))) ?_
  simp only [List.set_cons_succ, List.set_cons_zero]
  refine lin_val (i := 3) (v := .tuple #[.int .i64 (ti ((decl_Bloom x2 x4).1)), .int .u64 (tn ((decl_Bloom x2 x4).2))]) rfl rfl (by rfl) (by intro x hx; go_simp; (first | done | exact rfl)) ?_
  simp only [List.set_cons_succ, List.set_cons_zero]
  refine lin_val (i := 4) (v := .int .i64 (ti ((decl_Bloom x2 x4).1))) rfl rfl (by rfl) (by intro x hx; go_simp; (first | done | exact rfl)) ?_
  simp only [List.set_cons_succ, List.set_cons_zero]
  refine lin_val (i := 5) (v := .int .u64 (tn ((decl_Bloom x2 x4).2))) rfl rfl (by rfl) (by intro x hx; go_simp; (first | done | exact rfl)) ?_
  simp only [List.set_cons_succ, List.set_cons_zero]
  refine lin_val (i := 6) (v := .int .i64 (ti ((decl_Bloom x2 x4).1))) rfl rfl (by rfl) (by intro x hx; go_simp; (first | done | exact rfl)) ?_
  simp only [List.set_cons_succ, List.set_cons_zero]
  refine lin_val (i := 7) (v := .int .u64 (tn ((decl_Bloom x2 x4).2))) rfl rfl (by rfl) (by intro x hx; go_simp; (first | done | exact rfl)) ?_
  simp only [List.set_cons_succ, List.set_cons_zero]
  refine lin_done ?_
  intro W2 hx
  replace HS := hid hx
  clear hx
  -- region 3
  go_upto_region 3 with fail
  refine up_begin (St w [⟨w.heap.size, [some (.int .i64 (ti (x0.kind))), some (.int .i64 (ti (x0.entries))), some (.int .i64 (ti (x0.words))), some (.int .i64 (ti (x0.buckets))), some (.int .i64 (ti (x0.inner)))], 30⟩, ⟨w.heap.size + 1, [some (.int .i64 (ti (x1.kind))), some (.int .i64 (ti (x1.entries))), some (.int .i64 (ti (x1.words))), some (.int .i64 (ti (x1.buckets))), some (.int .i64 (ti (x1.inner)))], 30⟩]) 63 rfl (by kernel_rfl) (HS.out.drew) ?_
  refine take_val (i := 0) (v := .agg #[.int .i64 (ti (x0.kind)), .int .i64 (ti (x0.entries)), .int .i64 (ti (x0.words)), .int .i64 (ti (x0.buckets)), .int .i64 (ti (x0.inner))]) (st_ups _ _) rfl rfl (by kernel_rfl) (fun _ _ _ h => h) (by rfl) (by intro x hx; have f0 := hx.load 0 0 rfl rfl; have f1 := hx.load 0 1 rfl rfl; have f2 := hx.load 0 2 rfl rfl; have f3 := hx.load 0 3 rfl rfl; have f4 := hx.load 0 4 rfl rfl; go_simp; (first | done | exact rfl)) ?_
  simp only [List.set_cons_succ, List.set_cons_zero]
  refine take_val (i := 1) (v := .agg #[.int .i64 (ti (x1.kind)), .int .i64 (ti (x1.entries)), .int .i64 (ti (x1.words)), .int .i64 (ti (x1.buckets)), .int .i64 (ti (x1.inner))]) (st_ups _ _) rfl rfl (by kernel_rfl) (fun _ _ _ h => h) (by rfl) (by intro x hx; have f0 := hx.load 1 0 rfl rfl; have f1 := hx.load 1 1 rfl rfl; have f2 := hx.load 1 2 rfl rfl; have f3 := hx.load 1 3 rfl rfl; have f4 := hx.load 1 4 rfl rfl; go_simp; (first | done | exact rfl)) ?_
  simp only [List.set_cons_succ, List.set_cons_zero]
  refine take_call (i := 2) (f := 15) (args := #[.agg #[.int .i64 (ti (x0.kind)), .int .i64 (ti (x0.entries)), .int .i64 (ti (x0.words)), .int .i64 (ti (x0.buckets)), .int .i64 (ti (x0.inner))], .agg #[.int .i64 (ti (x1.kind)), .int .i64 (ti (x1.entries)), .int .i64 (ti (x1.words)), .int .i64 (ti (x1.buckets)), .int .i64 (ti (x1.inner))]]) (v := .bool (eqD x0 x1)) (st_ups _ _) rfl rfl (by kernel_rfl) (fun _ _ _ h => h) (by rfl) (fun x hx => by kernel_rfl) (by intro x hx; exact decl_Like_any x0 x1 _) ?_
  simp only [List.set_cons_succ, List.set_cons_zero]
  refine take_val (i := 3) (v := .agg #[.int .i64 (ti (x0.kind)), .int .i64 (ti (x0.entries)), .int .i64 (ti (x0.words)), .int .i64 (ti (x0.buckets)), .int .i64 (ti (x0.inner))]) (st_ups _ _) rfl rfl (by kernel_rfl) (fun _ _ _ h => h) (by rfl) (by intro x hx; have f0 := hx.load 0 0 rfl rfl; have f1 := hx.load 0 1 rfl rfl; have f2 := hx.load 0 2 rfl rfl; have f3 := hx.load 0 3 rfl rfl; have f4 := hx.load 0 4 rfl rfl; go_simp; (first | done | exact rfl)) ?_
  simp only [List.set_cons_succ, List.set_cons_zero]
  refine take_val (i := 4) (v := .agg #[.int .i64 (ti (x1.kind)), .int .i64 (ti (x1.entries)), .int .i64 (ti (x1.words)), .int .i64 (ti (x1.buckets)), .int .i64 (ti (x1.inner))]) (st_ups _ _) rfl rfl (by kernel_rfl) (fun _ _ _ h => h) (by rfl) (by intro x hx; have f0 := hx.load 1 0 rfl rfl; have f1 := hx.load 1 1 rfl rfl; have f2 := hx.load 1 2 rfl rfl; have f3 := hx.load 1 3 rfl rfl; have f4 := hx.load 1 4 rfl rfl; go_simp; (first | done | exact rfl)) ?_
  simp only [List.set_cons_succ, List.set_cons_zero]
  refine take_call (i := 5) (f := 16) (args := #[.agg #[.int .i64 (ti (x0.kind)), .int .i64 (ti (x0.entries)), .int .i64 (ti (x0.words)), .int .i64 (ti (x0.buckets)), .int .i64 (ti (x0.inner))], .agg #[.int .i64 (ti (x1.kind)), .int .i64 (ti (x1.entries)), .int .i64 (ti (x1.words)), .int .i64 (ti (x1.buckets)), .int .i64 (ti (x1.inner))]]) (v := .bool (eqD x0 x1)) (st_ups _ _) rfl rfl (by kernel_rfl) (fun _ _ _ h => h) (by rfl) (fun x hx => by kernel_rfl) (by intro x hx; exact calls_is (ref_Like_any x0 x1 _) (congrArg (fun rr : Bool => (.bool (rr) : Value)) (like_is x0 x1))) ?_
  simp only [List.set_cons_succ, List.set_cons_zero]
  refine take_val (i := 6) (v := .bool true) (st_ups _ _) rfl rfl (by kernel_rfl) (fun _ _ _ h => h) (by rfl) (by intro x hx; go_simp; (first | done | rfl | simp)) ?_
  simp only [List.set_cons_succ, List.set_cons_zero]
  refine take_val (i := 7) (v := .bool true) (st_ups _ _) rfl rfl (by kernel_rfl) (fun _ _ _ h => h) (by rfl) (by intro x hx; go_simp; (first | done | exact rfl)) ?_
  simp only [List.set_cons_succ, List.set_cons_zero]
  refine take_val (i := 8) (v := .pointer (some ⟨w.heap.size, 0, none⟩)) (st_ups _ _) rfl rfl (by kernel_rfl) (fun _ _ _ h => h) (by rfl) (by intro x hx; go_simp; (first | done | exact rfl)) ?_
  simp only [List.set_cons_succ, List.set_cons_zero]
  refine take_val (i := 9) (v := .int .i64 (ti (x0.kind))) (st_ups _ _) rfl rfl (by kernel_rfl) (fun _ _ _ h => h) (by rfl) (by intro x hx; have f0 := hx.load 0 0 rfl rfl; go_simp; (first | done | exact rfl)) ?_
  simp only [List.set_cons_succ, List.set_cons_zero]
  refine take_val (i := 10) (v := .int .i64 (ti (x4))) (st_ups _ _) rfl rfl (by kernel_rfl) (fun _ _ _ h => h) (by rfl) (by intro x hx; go_simp; (first | done | exact rfl)) ?_
  simp only [List.set_cons_succ, List.set_cons_zero]
  refine take_call (i := 11) (f := 17) (args := #[.int .i64 (ti (x0.kind)), .int .i64 (ti (x4))]) (v := .bool (decl_May x0.kind x4)) (st_ups _ _) rfl rfl (by kernel_rfl) (fun _ _ _ h => h) (by rfl) (fun x hx => by kernel_rfl) (by intro x hx; exact decl_May_any x0.kind x4 _ (HT.out.up hx.below)) ?_
  simp only [List.set_cons_succ, List.set_cons_zero]
  refine take_val (i := 12) (v := .pointer (some ⟨w.heap.size, 0, none⟩)) (st_ups _ _) rfl rfl (by kernel_rfl) (fun _ _ _ h => h) (by rfl) (by intro x hx; go_simp; (first | done | exact rfl)) ?_
  simp only [List.set_cons_succ, List.set_cons_zero]
  refine take_val (i := 13) (v := .int .i64 (ti (x0.kind))) (st_ups _ _) rfl rfl (by kernel_rfl) (fun _ _ _ h => h) (by rfl) (by intro x hx; have f0 := hx.load 0 0 rfl rfl; go_simp; (first | done | exact rfl)) ?_
  simp only [List.set_cons_succ, List.set_cons_zero]
  refine take_val (i := 14) (v := .int .i64 (ti (x4))) (st_ups _ _) rfl rfl (by kernel_rfl) (fun _ _ _ h => h) (by rfl) (by intro x hx; go_simp; (first | done | exact rfl)) ?_
  simp only [List.set_cons_succ, List.set_cons_zero]
  refine take_call (i := 15) (f := 18) (args := #[.int .i64 (ti (x0.kind)), .int .i64 (ti (x4))]) (v := .bool (decl_May x0.kind x4)) (st_ups _ _) rfl rfl (by kernel_rfl) (fun _ _ _ h => h) (by rfl) (fun x hx => by kernel_rfl) (by intro x hx; exact calls_is (ref_May_any x0.kind x4 _) (congrArg (fun rr : Bool => (.bool (rr) : Value)) (may_is x0.kind x4))) ?_
  simp only [List.set_cons_succ, List.set_cons_zero]
  refine take_val (i := 16) (v := .bool true) (st_ups _ _) rfl rfl (by kernel_rfl) (fun _ _ _ h => h) (by rfl) (by intro x hx; go_simp; (first | done | rfl | simp)) ?_
  simp only [List.set_cons_succ, List.set_cons_zero]
  refine take_val (i := 17) (v := .bool true) (st_ups _ _) rfl rfl (by kernel_rfl) (fun _ _ _ h => h) (by rfl) (by intro x hx; go_simp; (first | done | exact rfl)) ?_
  simp only [List.set_cons_succ, List.set_cons_zero]
  refine take_val (i := 18) (v := .bool true) (st_ups _ _) rfl rfl (by kernel_rfl) (fun _ _ _ h => h) (by rfl) (by intro x hx; go_simp; (first | done | exact rfl)) ?_
  simp only [List.set_cons_succ, List.set_cons_zero]
  refine take_val (i := 19) (v := .int .i64 (ti (x4))) (st_ups _ _) rfl rfl (by kernel_rfl) (fun _ _ _ h => h) (by rfl) (by intro x hx; go_simp; (first | done | exact rfl)) ?_
  simp only [List.set_cons_succ, List.set_cons_zero]
  refine take_val (i := 20) (v := .pointer (some ⟨w.heap.size + 1, 0, none⟩)) (st_ups _ _) rfl rfl (by kernel_rfl) (fun _ _ _ h => h) (by rfl) (by intro x hx; go_simp; (first | done | exact rfl)) ?_
  simp only [List.set_cons_succ, List.set_cons_zero]
  refine take_val (i := 21) (v := .int .i64 (ti (x1.kind))) (st_ups _ _) rfl rfl (by kernel_rfl) (fun _ _ _ h => h) (by rfl) (by intro x hx; have f0 := hx.load 1 0 rfl rfl; go_simp; (first | done | exact rfl)) ?_
  simp only [List.set_cons_succ, List.set_cons_zero]
  refine take_call (i := 22) (f := 17) (args := #[.int .i64 (ti (x4)), .int .i64 (ti (x1.kind))]) (v := .bool (decl_May x4 x1.kind)) (st_ups _ _) rfl rfl (by kernel_rfl) (fun _ _ _ h => h) (by rfl) (fun x hx => by kernel_rfl) (by intro x hx; exact decl_May_any x4 x1.kind _ (HT.out.up hx.below)) ?_
  simp only [List.set_cons_succ, List.set_cons_zero]
  refine take_val (i := 23) (v := .int .i64 (ti (x4))) (st_ups _ _) rfl rfl (by kernel_rfl) (fun _ _ _ h => h) (by rfl) (by intro x hx; go_simp; (first | done | exact rfl)) ?_
  simp only [List.set_cons_succ, List.set_cons_zero]
  refine take_val (i := 24) (v := .pointer (some ⟨w.heap.size + 1, 0, none⟩)) (st_ups _ _) rfl rfl (by kernel_rfl) (fun _ _ _ h => h) (by rfl) (by intro x hx; go_simp; (first | done | exact rfl)) ?_
  simp only [List.set_cons_succ, List.set_cons_zero]
  refine take_val (i := 25) (v := .int .i64 (ti (x1.kind))) (st_ups _ _) rfl rfl (by kernel_rfl) (fun _ _ _ h => h) (by rfl) (by intro x hx; have f0 := hx.load 1 0 rfl rfl; go_simp; (first | done | exact rfl)) ?_
  simp only [List.set_cons_succ, List.set_cons_zero]
  refine take_call (i := 26) (f := 18) (args := #[.int .i64 (ti (x4)), .int .i64 (ti (x1.kind))]) (v := .bool (decl_May x4 x1.kind)) (st_ups _ _) rfl rfl (by kernel_rfl) (fun _ _ _ h => h) (by rfl) (fun x hx => by kernel_rfl) (by intro x hx; exact calls_is (ref_May_any x4 x1.kind _) (congrArg (fun rr : Bool => (.bool (rr) : Value)) (may_is x4 x1.kind))) ?_
  simp only [List.set_cons_succ, List.set_cons_zero]
  refine take_val (i := 27) (v := .bool true) (st_ups _ _) rfl rfl (by kernel_rfl) (fun _ _ _ h => h) (by rfl) (by intro x hx; go_simp; (first | done | rfl | simp)) ?_
  simp only [List.set_cons_succ, List.set_cons_zero]
  refine take_val (i := 28) (v := .bool true) (st_ups _ _) rfl rfl (by kernel_rfl) (fun _ _ _ h => h) (by rfl) (by intro x hx; go_simp; (first | done | exact rfl)) ?_
  simp only [List.set_cons_succ, List.set_cons_zero]
  refine take_val (i := 29) (v := .bool true) (st_ups _ _) rfl rfl (by kernel_rfl) (fun _ _ _ h => h) (by rfl) (by intro x hx; go_simp; (first | done | exact rfl)) ?_
  simp only [List.set_cons_succ, List.set_cons_zero]
  refine take_val (i := 30) (v := .int .u64 (tn (x2))) (st_ups _ _) rfl rfl (by kernel_rfl) (fun _ _ _ h => h) (by rfl) (by intro x hx; go_simp; (first | done | exact rfl)) ?_
  simp only [List.set_cons_succ, List.set_cons_zero]
  refine take_val (i := 31) (v := .int .i64 (ti (x4))) (st_ups _ _) rfl rfl (by kernel_rfl) (fun _ _ _ h => h) (by rfl) (by intro x hx; go_simp; (first | done | exact rfl)) ?_
  simp only [List.set_cons_succ, List.set_cons_zero]
  refine take_call (i := 32) (f := 19) (args := #[.int .u64 (tn (x2)), .int .i64 (ti (x4))]) (v := .int .i64 (ti (decl_Bucket x2 x4))) (st_ups _ _) rfl rfl (by kernel_rfl) (fun _ _ _ h => h) (by rfl) (fun x hx => by kernel_rfl) (by intro x hx; exact decl_Bucket_any x2 x4 _) ?_
  simp only [List.set_cons_succ, List.set_cons_zero]
  refine take_val (i := 33) (v := .int .u64 (tn (x2))) (st_ups _ _) rfl rfl (by kernel_rfl) (fun _ _ _ h => h) (by rfl) (by intro x hx; go_simp; (first | done | exact rfl)) ?_
  simp only [List.set_cons_succ, List.set_cons_zero]
  refine take_val (i := 34) (v := .int .i64 (ti (x4))) (st_ups _ _) rfl rfl (by kernel_rfl) (fun _ _ _ h => h) (by rfl) (by intro x hx; go_simp; (first | done | exact rfl)) ?_
  simp only [List.set_cons_succ, List.set_cons_zero]
  refine take_call (i := 35) (f := 20) (args := #[.int .u64 (tn (x2)), .int .i64 (ti (x4))]) (v := .int .i64 (ti (decl_Bucket x2 x4))) (st_ups _ _) rfl rfl (by kernel_rfl) (fun _ _ _ h => h) (by rfl) (fun x hx => by kernel_rfl) (by intro x hx; exact calls_is (ref_Bucket_any x2 x4 _) (congrArg (fun rr : BitVec 64 => (.int .i64 (ti (rr)) : Value)) (bucket_is x2 x4))) ?_
  simp only [List.set_cons_succ, List.set_cons_zero]
  refine take_val (i := 36) (v := .bool true) (st_ups _ _) rfl rfl (by kernel_rfl) (fun _ _ _ h => h) (by rfl) (by intro x hx; go_simp; (first | done | (first | exact beq_self_eq_true _ | exact eq_of_beq (beq_self_eq_true _) | exact congrArg _ (beq_self_eq_true _) | (rw [beq_self_eq_true _]; done) | ((first | rfl | exact eqIT (decl_Bucket x2 x4) (decl_Bucket x2 x4) | exact congrArg _ (eqIT (decl_Bucket x2 x4) (decl_Bucket x2 x4)) | (rw [eqIT (decl_Bucket x2 x4) (decl_Bucket x2 x4)]; done) | (rw [eqIT (decl_Bucket x2 x4) (decl_Bucket x2 x4)]; rfl)); rw [beq_self_eq_true _]) | exact congrArg tn (eq_of_beq (beq_self_eq_true _)) | exact congrArg ti (eq_of_beq (beq_self_eq_true _)) | exact congrArg tn (eq_of_bne (beq_self_eq_true _)) | simpa using (beq_self_eq_true _)))) ?_
  simp only [List.set_cons_succ, List.set_cons_zero]
  refine take_val (i := 37) (v := .bool true) (st_ups _ _) rfl rfl (by kernel_rfl) (fun _ _ _ h => h) (by rfl) (by intro x hx; go_simp; (first | done | exact rfl)) ?_
  simp only [List.set_cons_succ, List.set_cons_zero]
  refine take_val (i := 38) (v := .bool true) (st_ups _ _) rfl rfl (by kernel_rfl) (fun _ _ _ h => h) (by rfl) (by intro x hx; go_simp; (first | done | exact rfl)) ?_
  simp only [List.set_cons_succ, List.set_cons_zero]
  refine take_val (i := 39) (v := .agg #[.int .i64 (ti (x0.kind)), .int .i64 (ti (x0.entries)), .int .i64 (ti (x0.words)), .int .i64 (ti (x0.buckets)), .int .i64 (ti (x0.inner))]) (st_ups _ _) rfl rfl (by kernel_rfl) (fun _ _ _ h => h) (by rfl) (by intro x hx; have f0 := hx.load 0 0 rfl rfl; have f1 := hx.load 0 1 rfl rfl; have f2 := hx.load 0 2 rfl rfl; have f3 := hx.load 0 3 rfl rfl; have f4 := hx.load 0 4 rfl rfl; go_simp; (first | done | exact rfl)) ?_
  simp only [List.set_cons_succ, List.set_cons_zero]
  refine take_val (i := 40) (v := .int .u64 (tn (x2))) (st_ups _ _) rfl rfl (by kernel_rfl) (fun _ _ _ h => h) (by rfl) (by intro x hx; go_simp; (first | done | exact rfl)) ?_
  simp only [List.set_cons_succ, List.set_cons_zero]
  refine take_val (i := 41) (v := .int .u64 (tn (x3))) (st_ups _ _) rfl rfl (by kernel_rfl) (fun _ _ _ h => h) (by rfl) (by intro x hx; go_simp; (first | done | exact rfl)) ?_
  simp only [List.set_cons_succ, List.set_cons_zero]
  refine take_call (i := 42) (f := 21) (args := #[.agg #[.int .i64 (ti (x0.kind)), .int .i64 (ti (x0.entries)), .int .i64 (ti (x0.words)), .int .i64 (ti (x0.buckets)), .int .i64 (ti (x0.inner))], .int .u64 (tn (x2)), .int .u64 (tn (x3))]) (v := .bool (decl_Ahead x0 x2 x3)) (st_ups _ _) rfl rfl (by kernel_rfl) (fun _ _ _ h => h) (by rfl) (fun x hx => by kernel_rfl) (by intro x hx; exact decl_Ahead_any x0 x2 x3 _ (HT.out.up hx.below)) ?_
  simp only [List.set_cons_succ, List.set_cons_zero]
  refine take_val (i := 43) (v := .agg #[.int .i64 (ti (x0.kind)), .int .i64 (ti (x0.entries)), .int .i64 (ti (x0.words)), .int .i64 (ti (x0.buckets)), .int .i64 (ti (x0.inner))]) (st_ups _ _) rfl rfl (by kernel_rfl) (fun _ _ _ h => h) (by rfl) (by intro x hx; have f0 := hx.load 0 0 rfl rfl; have f1 := hx.load 0 1 rfl rfl; have f2 := hx.load 0 2 rfl rfl; have f3 := hx.load 0 3 rfl rfl; have f4 := hx.load 0 4 rfl rfl; go_simp; (first | done | exact rfl)) ?_
  simp only [List.set_cons_succ, List.set_cons_zero]
  refine take_val (i := 44) (v := .int .u64 (tn (x2))) (st_ups _ _) rfl rfl (by kernel_rfl) (fun _ _ _ h => h) (by rfl) (by intro x hx; go_simp; (first | done | exact rfl)) ?_
  simp only [List.set_cons_succ, List.set_cons_zero]
  refine take_val (i := 45) (v := .int .u64 (tn (x3))) (st_ups _ _) rfl rfl (by kernel_rfl) (fun _ _ _ h => h) (by rfl) (by intro x hx; go_simp; (first | done | exact rfl)) ?_
  simp only [List.set_cons_succ, List.set_cons_zero]
  refine take_call (i := 46) (f := 22) (args := #[.agg #[.int .i64 (ti (x0.kind)), .int .i64 (ti (x0.entries)), .int .i64 (ti (x0.words)), .int .i64 (ti (x0.buckets)), .int .i64 (ti (x0.inner))], .int .u64 (tn (x2)), .int .u64 (tn (x3))]) (v := .bool (decl_Ahead x0 x2 x3)) (st_ups _ _) rfl rfl (by kernel_rfl) (fun _ _ _ h => h) (by rfl) (fun x hx => by kernel_rfl) (by intro x hx; exact calls_is (ref_Ahead_any x0 x2 x3 _) (congrArg (fun rr : Bool => (.bool (rr) : Value)) (ahead_is x0 x2 x3))) ?_
  simp only [List.set_cons_succ, List.set_cons_zero]
  refine take_val (i := 47) (v := .bool true) (st_ups _ _) rfl rfl (by kernel_rfl) (fun _ _ _ h => h) (by rfl) (by intro x hx; go_simp; (first | done | rfl | simp)) ?_
  simp only [List.set_cons_succ, List.set_cons_zero]
  refine take_val (i := 48) (v := .bool true) (st_ups _ _) rfl rfl (by kernel_rfl) (fun _ _ _ h => h) (by rfl) (by intro x hx; go_simp; (first | done | exact rfl)) ?_
  simp only [List.set_cons_succ, List.set_cons_zero]
  refine take_val (i := 49) (v := .bool true) (st_ups _ _) rfl rfl (by kernel_rfl) (fun _ _ _ h => h) (by rfl) (by intro x hx; go_simp; (first | done | exact rfl)) ?_
  simp only [List.set_cons_succ, List.set_cons_zero]
  refine take_val (i := 50) (v := .int .i64 (ti ((decl_Bloom x2 x4).1))) (st_ups _ _) rfl rfl (by kernel_rfl) (fun _ _ _ h => h) (by rfl) (by intro x hx; go_simp; (first | done | exact rfl)) ?_
  simp only [List.set_cons_succ, List.set_cons_zero]
  refine take_val (i := 51) (v := .int .i64 (ti ((decl_Bloom x2 x4).1))) (st_ups _ _) rfl rfl (by kernel_rfl) (fun _ _ _ h => h) (by rfl) (by intro x hx; go_simp; (first | done | exact rfl)) ?_
  simp only [List.set_cons_succ, List.set_cons_zero]
  refine take_val (i := 52) (v := .bool true) (st_ups _ _) rfl rfl (by kernel_rfl) (fun _ _ _ h => h) (by rfl) (by intro x hx; go_simp; (first | done | (first | exact beq_self_eq_true _ | exact eq_of_beq (beq_self_eq_true _) | exact congrArg _ (beq_self_eq_true _) | (rw [beq_self_eq_true _]; done) | ((first | rfl | exact eqIT ((decl_Bloom x2 x4).1) ((decl_Bloom x2 x4).1) | exact congrArg _ (eqIT ((decl_Bloom x2 x4).1) ((decl_Bloom x2 x4).1)) | (rw [eqIT ((decl_Bloom x2 x4).1) ((decl_Bloom x2 x4).1)]; done) | (rw [eqIT ((decl_Bloom x2 x4).1) ((decl_Bloom x2 x4).1)]; rfl)); rw [beq_self_eq_true _]) | exact congrArg tn (eq_of_beq (beq_self_eq_true _)) | exact congrArg ti (eq_of_beq (beq_self_eq_true _)) | exact congrArg tn (eq_of_bne (beq_self_eq_true _)) | simpa using (beq_self_eq_true _)))) ?_
  simp only [List.set_cons_succ, List.set_cons_zero]
  refine take_val (i := 53) (v := .bool true) (st_ups _ _) rfl rfl (by kernel_rfl) (fun _ _ _ h => h) (by rfl) (by intro x hx; go_simp; (first | done | exact rfl)) ?_
  simp only [List.set_cons_succ, List.set_cons_zero]
  refine take_val (i := 54) (v := .bool true) (st_ups _ _) rfl rfl (by kernel_rfl) (fun _ _ _ h => h) (by rfl) (by intro x hx; go_simp; (first | done | exact rfl)) ?_
  simp only [List.set_cons_succ, List.set_cons_zero]
  refine take_val (i := 55) (v := .int .u64 (tn ((decl_Bloom x2 x4).2))) (st_ups _ _) rfl rfl (by kernel_rfl) (fun _ _ _ h => h) (by rfl) (by intro x hx; go_simp; (first | done | exact rfl)) ?_
  simp only [List.set_cons_succ, List.set_cons_zero]
  refine take_val (i := 56) (v := .int .u64 (tn ((decl_Bloom x2 x4).2))) (st_ups _ _) rfl rfl (by kernel_rfl) (fun _ _ _ h => h) (by rfl) (by intro x hx; go_simp; (first | done | exact rfl)) ?_
  simp only [List.set_cons_succ, List.set_cons_zero]
  refine take_val (i := 57) (v := .bool true) (st_ups _ _) rfl rfl (by kernel_rfl) (fun _ _ _ h => h) (by rfl) (by intro x hx; go_simp; (first | done | (first | exact beq_self_eq_true _ | exact eq_of_beq (beq_self_eq_true _) | exact congrArg _ (beq_self_eq_true _) | (rw [beq_self_eq_true _]; done) | ((first | rfl | exact eqUT ((decl_Bloom x2 x4).2) ((decl_Bloom x2 x4).2) | exact congrArg _ (eqUT ((decl_Bloom x2 x4).2) ((decl_Bloom x2 x4).2)) | (rw [eqUT ((decl_Bloom x2 x4).2) ((decl_Bloom x2 x4).2)]; done) | (rw [eqUT ((decl_Bloom x2 x4).2) ((decl_Bloom x2 x4).2)]; rfl)); rw [beq_self_eq_true _]) | exact congrArg tn (eq_of_beq (beq_self_eq_true _)) | exact congrArg ti (eq_of_beq (beq_self_eq_true _)) | exact congrArg tn (eq_of_bne (beq_self_eq_true _)) | simpa using (beq_self_eq_true _)))) ?_
  simp only [List.set_cons_succ, List.set_cons_zero]
  refine take_val (i := 58) (v := .bool true) (st_ups _ _) rfl rfl (by kernel_rfl) (fun _ _ _ h => h) (by rfl) (by intro x hx; go_simp; (first | done | exact rfl)) ?_
  simp only [List.set_cons_succ, List.set_cons_zero]
  refine take_val (i := 59) (v := .bool true) (st_ups _ _) rfl rfl (by kernel_rfl) (fun _ _ _ h => h) (by rfl) (by intro x hx; go_simp; (first | done | exact rfl)) ?_
  simp only [List.set_cons_succ, List.set_cons_zero]
  refine take_call (i := 60) (f := 8) (args := #[]) (v := .bool true) (st_ups _ _) rfl rfl (by kernel_rfl) (fun _ _ _ h => h) (by rfl) (fun x hx => by kernel_rfl) (by intro x hx; exact law_works_any _ (HT.out.up hx.below)) ?_
  simp only [List.set_cons_succ, List.set_cons_zero]
  refine take_val (i := 61) (v := .bool true) (st_ups _ _) rfl rfl (by kernel_rfl) (fun _ _ _ h => h) (by rfl) (by intro x hx; go_simp; (first | done | exact rfl)) ?_
  simp only [List.set_cons_succ, List.set_cons_zero]
  refine take_val (i := 62) (v := .bool true) (st_ups _ _) rfl rfl (by kernel_rfl) (fun _ _ _ h => h) (by rfl) (by intro x hx; go_simp; (first | done | exact rfl)) ?_
  simp only [List.set_cons_succ, List.set_cons_zero]
  refine take_done (by kernel_rfl) ?_ _
  intro W3 hx
  replace HS := hid hx
  clear hx
  go_wp2
  exact bodyPost_ret (v := .bool true) (by simp [results, Tryd.results4, go_sem]) rfl ⟨rfl, HS.out.below⟩
end Go.Proofs.YtejcjjimhaokfaaDoor.Dcl
