/-
  The contract of decl's checkOne.
-/
import Derived.Test.YtejcjjimhaokfaaDoorDcE
import Derived.Test.YtejcjjimhaokfaaDoorDlB
namespace Go.Proofs.YtejcjjimhaokfaaDoor.Dcl
open Go.RowKit Go.Proofs.YtejcjjimhaokfaaDoor.Num Go.Proofs.YtejcjjimhaokfaaDoor.Up Go.Proofs.YtejcjjimhaokfaaDoor.Tn
def decl_checkOne (x0 : Dc) (L : List Dc) (len : Nat)  : BitVec 64 :=
  bif (!((feat2 x0.kind).2)) then (1#64) else (bif (!(bif geI x0.entries 1#64 then leI x0.entries 64#64 else false)) then (1#64) else (bif (!(decl_features_wordsRight ((feat2 x0.kind).1) x0.words)) then (1#64) else (bif (!(decl_features_bucketsRight ((feat2 x0.kind).1) x0.buckets)) then (1#64) else (bif (!(decl_features_innerRight ((feat2 x0.kind).1) x0.inner (lenV len))) then (1#64) else (bif ((feat2 x0.kind).1).inner then (bif ((feat2 (L.getD (x0.inner.toNat - 1) dc0).kind).1).inner then 14#64 else 0#64) else 0#64)))))
set_option maxRecDepth 100000 in
set_option maxHeartbeats 8000000 in
theorem decl_checkOne_any (x0 : Dc) (L : List Dc) (len : Nat)  (a : Option Addr) (cap : Nat)  (w : World) (LN : len ≤ 1000) (A : ArgN w a len (L.map Dc.di)) (hT : Tn.Tab w) :
    Calls Tryd.prog 23 #[.agg #[.int .i64 (ti (x0.kind)), .int .i64 (ti (x0.entries)), .int .i64 (ti (x0.words)), .int .i64 (ti (x0.buckets)), .int .i64 (ti (x0.inner))], .slice a len cap] w fun e w' => e = .returned (.int .i64 (ti (decl_checkOne x0 L len))) ∧ Below w.heap.size w w' := by
  have HT := hid hT
  clear hT
  have HLN := hid LN
  clear LN
  have HA := hid A
  clear A
  go_enter Tryd.func23, Tryd.ntmps23
  have HS := hid ((st_nil w).alloc (k := w.heap.size) rfl [.int .i64 (ti (x0.kind)), .int .i64 (ti (x0.entries)), .int .i64 (ti (x0.words)), .int .i64 (ti (x0.buckets)), .int .i64 (ti (x0.inner))] 30)
  -- region 1
  go_upto_region 1 with fail
  refine lin_begin (St w [⟨w.heap.size, [some (.int .i64 (ti (x0.kind))), some (.int .i64 (ti (x0.entries))), some (.int .i64 (ti (x0.words))), some (.int .i64 (ti (x0.buckets))), some (.int .i64 (ti (x0.inner)))], 30⟩]) rfl HS.out ?_
  refine lin_val (i := 0) (v := .pointer (some ⟨w.heap.size, 0, none⟩)) rfl rfl (by rfl) (by intro x hx; go_simp; (first | done | exact rfl)) ?_
  simp only [List.set_cons_succ, List.set_cons_zero]
  refine lin_val (i := 1) (v := .int .i64 (ti (x0.kind))) rfl rfl (by rfl) (by intro x hx; have f0 := hx.load 0 0 rfl rfl; go_simp; (first | done | exact rfl)) ?_
  simp only [List.set_cons_succ, List.set_cons_zero]
  refine lin_call (i := 2) (f := 25) (args := #[.int .i64 (ti (x0.kind))]) (v := .tuple #[.agg #[.int .u64 (tn (((feat2 x0.kind).1).ops)), .bool (((feat2 x0.kind).1).words), .bool (((feat2 x0.kind).1).buckets), .bool (((feat2 x0.kind).1).spread), .bool (((feat2 x0.kind).1).inner)], .bool ((feat2 x0.kind).2)]) (st_ups _ _) rfl rfl (by rfl) (fun x hx => by kernel_rfl) (by intro x hx; exact feat_any x0.kind _ (HT.out.up hx.below)) ?_
  simp only [List.set_cons_succ, List.set_cons_zero]
  refine lin_val (i := 3) (v := .tuple #[.agg #[.int .u64 (tn (((feat2 x0.kind).1).ops)), .bool (((feat2 x0.kind).1).words), .bool (((feat2 x0.kind).1).buckets), .bool (((feat2 x0.kind).1).spread), .bool (((feat2 x0.kind).1).inner)], .bool ((feat2 x0.kind).2)]) rfl rfl (by rfl) (by intro x hx; go_simp; (first | done | exact rfl)) ?_
  simp only [List.set_cons_succ, List.set_cons_zero]
  refine lin_val (i := 4) (v := .agg #[.int .u64 (tn (((feat2 x0.kind).1).ops)), .bool (((feat2 x0.kind).1).words), .bool (((feat2 x0.kind).1).buckets), .bool (((feat2 x0.kind).1).spread), .bool (((feat2 x0.kind).1).inner)]) rfl rfl (by rfl) (by intro x hx; go_simp; (first | done | exact rfl)) ?_
  simp only [List.set_cons_succ, List.set_cons_zero]
  refine lin_val (i := 5) (v := .bool ((feat2 x0.kind).2)) rfl rfl (by rfl) (by intro x hx; go_simp; (first | done | exact rfl)) ?_
  simp only [List.set_cons_succ, List.set_cons_zero]
  refine lin_new (i := 6) rfl rfl (by rfl) [.int .u64 0, .bool false, .bool false, .bool false, .bool false] 45 (fun k => .pointer (some ⟨k, 0, none⟩)) [some (.int .u64 0), some (.bool false), some (.bool false), some (.bool false), some (.bool false)] (lessC_refl _) (by intro x hx; go_simp; (first | done | exact rfl)) (fun k1 => ?_)
  simp only [List.set_cons_succ, List.set_cons_zero]
  refine lin_store (i := 7) (St w [⟨w.heap.size, [some (.int .i64 (ti (x0.kind))), some (.int .i64 (ti (x0.entries))), some (.int .i64 (ti (x0.words))), some (.int .i64 (ti (x0.buckets))), some (.int .i64 (ti (x0.inner)))], 30⟩, ⟨k1, [some (.int .u64 (tn (((feat2 x0.kind).1).ops))), some (.bool (((feat2 x0.kind).1).words)), some (.bool (((feat2 x0.kind).1).buckets)), some (.bool (((feat2 x0.kind).1).spread)), some (.bool (((feat2 x0.kind).1).inner))], 45⟩]) rfl rfl (by rfl) (fun x => (((((x.setCell ⟨k1, 0, none⟩ (.int .u64 (tn (((feat2 x0.kind).1).ops)))).setCell ⟨k1, 1, none⟩ (.bool (((feat2 x0.kind).1).words))).setCell ⟨k1, 2, none⟩ (.bool (((feat2 x0.kind).1).buckets))).setCell ⟨k1, 3, none⟩ (.bool (((feat2 x0.kind).1).spread))).setCell ⟨k1, 4, none⟩ (.bool (((feat2 x0.kind).1).inner)))) (by intro x hx; obtain ⟨u0, z0⟩ := hx.has 1 0 rfl (by simp); have q0 := hx.soft 1 0 rfl; obtain ⟨u1, z1⟩ := hx.has 1 1 rfl (by simp); have q1 := hx.soft 1 1 rfl; obtain ⟨u2, z2⟩ := hx.has 1 2 rfl (by simp); have q2 := hx.soft 1 2 rfl; obtain ⟨u3, z3⟩ := hx.has 1 3 rfl (by simp); have q3 := hx.soft 1 3 rfl; obtain ⟨u4, z4⟩ := hx.has 1 4 rfl (by simp); have q4 := hx.soft 1 4 rfl; go_simp; (first | done | rfl)) (fun x hx => (((((hx.put 1 0 (.int .u64 (tn (((feat2 x0.kind).1).ops))) rfl).put 1 1 (.bool (((feat2 x0.kind).1).words)) rfl).put 1 2 (.bool (((feat2 x0.kind).1).buckets)) rfl).put 1 3 (.bool (((feat2 x0.kind).1).spread)) rfl).put 1 4 (.bool (((feat2 x0.kind).1).inner)) rfl)) ?_
  refine lin_val (i := 8) (v := .bool ((feat2 x0.kind).2)) rfl rfl (by rfl) (by intro x hx; go_simp; (first | done | exact rfl)) ?_
  simp only [List.set_cons_succ, List.set_cons_zero]
  refine lin_done ?_
  intro W1 hx
  replace HS := hid hx
  clear hx
  -- region 2
  go_upto_region 2 with fail
  refine lin_begin (St w [⟨w.heap.size, [some (.int .i64 (ti (x0.kind))), some (.int .i64 (ti (x0.entries))), some (.int .i64 (ti (x0.words))), some (.int .i64 (ti (x0.buckets))), some (.int .i64 (ti (x0.inner)))], 30⟩, ⟨k1, [some (.int .u64 (tn (((feat2 x0.kind).1).ops))), some (.bool (((feat2 x0.kind).1).words)), some (.bool (((feat2 x0.kind).1).buckets)), some (.bool (((feat2 x0.kind).1).spread)), some (.bool (((feat2 x0.kind).1).inner))], 45⟩]) rfl HS.out ?_
  refine lin_val (i := 0) (v := .bool ((feat2 x0.kind).2)) rfl rfl (by rfl) (by intro x hx; go_simp; (first | done | exact rfl)) ?_
  simp only [List.set_cons_succ, List.set_cons_zero]
  refine lin_val (i := 1) (v := .bool ((!((feat2 x0.kind).2)))) rfl rfl (by rfl) (by intro x hx; go_simp; (first | done | exact rfl)) ?_
  simp only [List.set_cons_succ, List.set_cons_zero]
  refine lin_val (i := 2) (v := .bool ((!((feat2 x0.kind).2)))) rfl rfl (by rfl) (by intro x hx; go_simp; (first | done | exact rfl)) ?_
  simp only [List.set_cons_succ, List.set_cons_zero]
  refine lin_done ?_
  intro W2 hx
  replace HS := hid hx
  clear hx
  cases h1 : ((!((feat2 x0.kind).2)))
  · replace h1 := hid h1
    -- region 3
    go_upto_region 3 with fail
    refine lin_begin (St w [⟨w.heap.size, [some (.int .i64 (ti (x0.kind))), some (.int .i64 (ti (x0.entries))), some (.int .i64 (ti (x0.words))), some (.int .i64 (ti (x0.buckets))), some (.int .i64 (ti (x0.inner)))], 30⟩, ⟨k1, [some (.int .u64 (tn (((feat2 x0.kind).1).ops))), some (.bool (((feat2 x0.kind).1).words)), some (.bool (((feat2 x0.kind).1).buckets)), some (.bool (((feat2 x0.kind).1).spread)), some (.bool (((feat2 x0.kind).1).inner))], 45⟩]) rfl HS.out ?_
    refine lin_val (i := 0) (v := .pointer (some ⟨w.heap.size, 1, none⟩)) rfl rfl (by rfl) (by intro x hx; go_simp; (first | done | exact rfl)) ?_
    simp only [List.set_cons_succ, List.set_cons_zero]
    refine lin_val (i := 1) (v := .int .i64 (ti (x0.entries))) rfl rfl (by rfl) (by intro x hx; have f0 := hx.load 0 1 rfl rfl; go_simp; (first | done | exact rfl)) ?_
    simp only [List.set_cons_succ, List.set_cons_zero]
    refine lin_call (i := 2) (f := 27) (args := #[.int .i64 (ti (x0.entries)), .int .i64 (ti (64#64))]) (v := .bool ((bif geI x0.entries 1#64 then leI x0.entries 64#64 else false))) (st_ups _ _) rfl rfl (by rfl) (fun x hx => by kernel_rfl) (by intro x hx; exact decl_within_any x0.entries 64#64 _) ?_
    simp only [List.set_cons_succ, List.set_cons_zero]
    refine lin_val (i := 3) (v := .bool ((!(bif geI x0.entries 1#64 then leI x0.entries 64#64 else false)))) rfl rfl (by rfl) (by intro x hx; go_simp; (first | done | exact rfl)) ?_
    simp only [List.set_cons_succ, List.set_cons_zero]
    refine lin_val (i := 4) (v := .bool ((!(bif geI x0.entries 1#64 then leI x0.entries 64#64 else false)))) rfl rfl (by rfl) (by intro x hx; go_simp; (first | done | exact rfl)) ?_
    simp only [List.set_cons_succ, List.set_cons_zero]
    refine lin_done ?_
    intro W3 hx
    replace HS := hid hx
    clear hx
    cases h2 : ((!(bif geI x0.entries 1#64 then leI x0.entries 64#64 else false)))
    · replace h2 := hid h2
      -- region 4
      go_upto_region 4 with fail
      refine lin_begin (St w [⟨w.heap.size, [some (.int .i64 (ti (x0.kind))), some (.int .i64 (ti (x0.entries))), some (.int .i64 (ti (x0.words))), some (.int .i64 (ti (x0.buckets))), some (.int .i64 (ti (x0.inner)))], 30⟩, ⟨k1, [some (.int .u64 (tn (((feat2 x0.kind).1).ops))), some (.bool (((feat2 x0.kind).1).words)), some (.bool (((feat2 x0.kind).1).buckets)), some (.bool (((feat2 x0.kind).1).spread)), some (.bool (((feat2 x0.kind).1).inner))], 45⟩]) rfl HS.out ?_
      refine lin_val (i := 0) (v := .agg #[.int .u64 (tn (((feat2 x0.kind).1).ops)), .bool (((feat2 x0.kind).1).words), .bool (((feat2 x0.kind).1).buckets), .bool (((feat2 x0.kind).1).spread), .bool (((feat2 x0.kind).1).inner)]) rfl rfl (by rfl) (by intro x hx; have f0 := hx.load 1 0 rfl rfl; have f1 := hx.load 1 1 rfl rfl; have f2 := hx.load 1 2 rfl rfl; have f3 := hx.load 1 3 rfl rfl; have f4 := hx.load 1 4 rfl rfl; go_simp; (first | done | exact rfl)) ?_
      simp only [List.set_cons_succ, List.set_cons_zero]
      refine lin_val (i := 1) (v := .pointer (some ⟨w.heap.size, 2, none⟩)) rfl rfl (by rfl) (by intro x hx; go_simp; (first | done | exact rfl)) ?_
      simp only [List.set_cons_succ, List.set_cons_zero]
      refine lin_val (i := 2) (v := .int .i64 (ti (x0.words))) rfl rfl (by rfl) (by intro x hx; have f0 := hx.load 0 2 rfl rfl; go_simp; (first | done | exact rfl)) ?_
      simp only [List.set_cons_succ, List.set_cons_zero]
      refine lin_call (i := 3) (f := 28) (args := #[.agg #[.int .u64 (tn (((feat2 x0.kind).1).ops)), .bool (((feat2 x0.kind).1).words), .bool (((feat2 x0.kind).1).buckets), .bool (((feat2 x0.kind).1).spread), .bool (((feat2 x0.kind).1).inner)], .int .i64 (ti (x0.words))]) (v := .bool (decl_features_wordsRight ((feat2 x0.kind).1) x0.words)) (st_ups _ _) rfl rfl (by rfl) (fun x hx => by kernel_rfl) (by intro x hx; exact decl_features_wordsRight_any ((feat2 x0.kind).1) x0.words _) ?_
      simp only [List.set_cons_succ, List.set_cons_zero]
      refine lin_val (i := 4) (v := .bool ((!(decl_features_wordsRight ((feat2 x0.kind).1) x0.words)))) rfl rfl (by rfl) (by intro x hx; go_simp; (first | done | exact rfl)) ?_
      simp only [List.set_cons_succ, List.set_cons_zero]
      refine lin_val (i := 5) (v := .bool ((!(decl_features_wordsRight ((feat2 x0.kind).1) x0.words)))) rfl rfl (by rfl) (by intro x hx; go_simp; (first | done | exact rfl)) ?_
      simp only [List.set_cons_succ, List.set_cons_zero]
      refine lin_done ?_
      intro W4 hx
      replace HS := hid hx
      clear hx
      cases h3 : ((!(decl_features_wordsRight ((feat2 x0.kind).1) x0.words)))
      · replace h3 := hid h3
        -- region 5
        go_upto_region 5 with fail
        refine lin_begin (St w [⟨w.heap.size, [some (.int .i64 (ti (x0.kind))), some (.int .i64 (ti (x0.entries))), some (.int .i64 (ti (x0.words))), some (.int .i64 (ti (x0.buckets))), some (.int .i64 (ti (x0.inner)))], 30⟩, ⟨k1, [some (.int .u64 (tn (((feat2 x0.kind).1).ops))), some (.bool (((feat2 x0.kind).1).words)), some (.bool (((feat2 x0.kind).1).buckets)), some (.bool (((feat2 x0.kind).1).spread)), some (.bool (((feat2 x0.kind).1).inner))], 45⟩]) rfl HS.out ?_
        refine lin_val (i := 0) (v := .agg #[.int .u64 (tn (((feat2 x0.kind).1).ops)), .bool (((feat2 x0.kind).1).words), .bool (((feat2 x0.kind).1).buckets), .bool (((feat2 x0.kind).1).spread), .bool (((feat2 x0.kind).1).inner)]) rfl rfl (by rfl) (by intro x hx; have f0 := hx.load 1 0 rfl rfl; have f1 := hx.load 1 1 rfl rfl; have f2 := hx.load 1 2 rfl rfl; have f3 := hx.load 1 3 rfl rfl; have f4 := hx.load 1 4 rfl rfl; go_simp; (first | done | exact rfl)) ?_
        simp only [List.set_cons_succ, List.set_cons_zero]
        refine lin_val (i := 1) (v := .pointer (some ⟨w.heap.size, 3, none⟩)) rfl rfl (by rfl) (by intro x hx; go_simp; (first | done | exact rfl)) ?_
        simp only [List.set_cons_succ, List.set_cons_zero]
        refine lin_val (i := 2) (v := .int .i64 (ti (x0.buckets))) rfl rfl (by rfl) (by intro x hx; have f0 := hx.load 0 3 rfl rfl; go_simp; (first | done | exact rfl)) ?_
        simp only [List.set_cons_succ, List.set_cons_zero]
        refine lin_call (i := 3) (f := 29) (args := #[.agg #[.int .u64 (tn (((feat2 x0.kind).1).ops)), .bool (((feat2 x0.kind).1).words), .bool (((feat2 x0.kind).1).buckets), .bool (((feat2 x0.kind).1).spread), .bool (((feat2 x0.kind).1).inner)], .int .i64 (ti (x0.buckets))]) (v := .bool (decl_features_bucketsRight ((feat2 x0.kind).1) x0.buckets)) (st_ups _ _) rfl rfl (by rfl) (fun x hx => by kernel_rfl) (by intro x hx; exact decl_features_bucketsRight_any ((feat2 x0.kind).1) x0.buckets _) ?_
        simp only [List.set_cons_succ, List.set_cons_zero]
        refine lin_val (i := 4) (v := .bool ((!(decl_features_bucketsRight ((feat2 x0.kind).1) x0.buckets)))) rfl rfl (by rfl) (by intro x hx; go_simp; (first | done | exact rfl)) ?_
        simp only [List.set_cons_succ, List.set_cons_zero]
        refine lin_val (i := 5) (v := .bool ((!(decl_features_bucketsRight ((feat2 x0.kind).1) x0.buckets)))) rfl rfl (by rfl) (by intro x hx; go_simp; (first | done | exact rfl)) ?_
        simp only [List.set_cons_succ, List.set_cons_zero]
        refine lin_done ?_
        intro W5 hx
        replace HS := hid hx
        clear hx
        cases h4 : ((!(decl_features_bucketsRight ((feat2 x0.kind).1) x0.buckets)))
        · replace h4 := hid h4
          -- region 6
          go_upto_region 6 with fail
          refine lin_begin (St w [⟨w.heap.size, [some (.int .i64 (ti (x0.kind))), some (.int .i64 (ti (x0.entries))), some (.int .i64 (ti (x0.words))), some (.int .i64 (ti (x0.buckets))), some (.int .i64 (ti (x0.inner)))], 30⟩, ⟨k1, [some (.int .u64 (tn (((feat2 x0.kind).1).ops))), some (.bool (((feat2 x0.kind).1).words)), some (.bool (((feat2 x0.kind).1).buckets)), some (.bool (((feat2 x0.kind).1).spread)), some (.bool (((feat2 x0.kind).1).inner))], 45⟩]) rfl HS.out ?_
          refine lin_val (i := 0) (v := .agg #[.int .u64 (tn (((feat2 x0.kind).1).ops)), .bool (((feat2 x0.kind).1).words), .bool (((feat2 x0.kind).1).buckets), .bool (((feat2 x0.kind).1).spread), .bool (((feat2 x0.kind).1).inner)]) rfl rfl (by rfl) (by intro x hx; have f0 := hx.load 1 0 rfl rfl; have f1 := hx.load 1 1 rfl rfl; have f2 := hx.load 1 2 rfl rfl; have f3 := hx.load 1 3 rfl rfl; have f4 := hx.load 1 4 rfl rfl; go_simp; (first | done | exact rfl)) ?_
          simp only [List.set_cons_succ, List.set_cons_zero]
          refine lin_val (i := 1) (v := .pointer (some ⟨w.heap.size, 4, none⟩)) rfl rfl (by rfl) (by intro x hx; go_simp; (first | done | exact rfl)) ?_
          simp only [List.set_cons_succ, List.set_cons_zero]
          refine lin_val (i := 2) (v := .int .i64 (ti (x0.inner))) rfl rfl (by rfl) (by intro x hx; have f0 := hx.load 0 4 rfl rfl; go_simp; (first | done | exact rfl)) ?_
          simp only [List.set_cons_succ, List.set_cons_zero]
          refine lin_val (i := 3) (v := .slice a len cap) rfl rfl (by rfl) (by intro x hx; go_simp; (first | done | exact rfl)) ?_
          simp only [List.set_cons_succ, List.set_cons_zero]
          refine lin_val (i := 4) (v := .int .i64 (ti (lenV len))) rfl rfl (by rfl) (by intro x hx; go_simp; (first | done | exact congrArg (fun v => Result.ok (Next.value (Value.int .i64 v)) x) (lenT HLN.out).symm | (rw [lenT HLN.out]; done) | (rw [lenT HLN.out]; rfl))) ?_
          simp only [List.set_cons_succ, List.set_cons_zero]
          refine lin_call (i := 5) (f := 30) (args := #[.agg #[.int .u64 (tn (((feat2 x0.kind).1).ops)), .bool (((feat2 x0.kind).1).words), .bool (((feat2 x0.kind).1).buckets), .bool (((feat2 x0.kind).1).spread), .bool (((feat2 x0.kind).1).inner)], .int .i64 (ti (x0.inner)), .int .i64 (ti (lenV len))]) (v := .bool (decl_features_innerRight ((feat2 x0.kind).1) x0.inner (lenV len))) (st_ups _ _) rfl rfl (by rfl) (fun x hx => by kernel_rfl) (by intro x hx; exact decl_features_innerRight_any ((feat2 x0.kind).1) x0.inner (lenV len) _) ?_
          simp only [List.set_cons_succ, List.set_cons_zero]
          refine lin_val (i := 6) (v := .bool ((!(decl_features_innerRight ((feat2 x0.kind).1) x0.inner (lenV len))))) rfl rfl (by rfl) (by intro x hx; go_simp; (first | done | exact rfl)) ?_
          simp only [List.set_cons_succ, List.set_cons_zero]
          refine lin_val (i := 7) (v := .bool ((!(decl_features_innerRight ((feat2 x0.kind).1) x0.inner (lenV len))))) rfl rfl (by rfl) (by intro x hx; go_simp; (first | done | exact rfl)) ?_
          simp only [List.set_cons_succ, List.set_cons_zero]
          refine lin_done ?_
          intro W6 hx
          replace HS := hid hx
          clear hx
          cases h5 : ((!(decl_features_innerRight ((feat2 x0.kind).1) x0.inner (lenV len))))
          · replace h5 := hid h5
            have c0 := HS.out.load 1 4 rfl rfl
            have c1 := HS.out.load 0 4 rfl rfl
            have HIN := hid (ix_in HLN.out (not_f h5.out))
            have HEND := hid (fun v => show cond ((feat2 x0.kind).1).inner _ _ = v → _ from fun (e : cond ((feat2 x0.kind).1).inner (cond ((feat2 (L.getD (x0.inner.toNat - 1) dc0).kind).1).inner 14#64 0#64) 0#64 = v) => show decl_checkOne x0 L len = v from by unfold decl_checkOne; rw [cond_f h1.out, cond_f h2.out, cond_f h3.out, cond_f h4.out, cond_f h5.out]; exact e)
            cases hI : ((feat2 x0.kind).1).inner
            · rw [hI] at c0
              rw [hI] at HEND
              clear hI
              go_wp2
              go_ret
              exact ⟨by rw [HEND.out _ rfl]; rfl, HS.out.below⟩
            · rw [hI] at c0
              rw [hI] at HEND
              obtain ⟨k, hk0, hk1, hk2⟩ := HIN.out hI
              clear hI
              rw [hk1] at c1
              rw [hk0] at HEND
              obtain ⟨b, off, rfl, hb, hr⟩ := HA.out.2 (by omega)
              obtain ⟨d0, d1, d2, d3, d4⟩ := hr.below HS.out.below hb k _ (map_get L k (by have := HA.out.1; simp at this; omega))
              generalize L.getD k dc0 = q at d0 d1 d2 d3 d4 HEND
              unfold Dc.di at d0 d1 d2 d3 d4
              simp only at d0 d1 d2 d3 d4
              have hln := HLN.out
              have h9 : ((k : Int) + 1 - 1) = (k : Int) := by omega
              clear hr hk0 hk1
              go_wp2_with fail
              refine (decl_holdsMaps_any q _ (HT.out.up HS.out.below)).mono ?_
              rintro e w2 ⟨rfl, hb2⟩
              have HB2 := hid (HS.out.below.trans (hb2.mono HS.out.below.size))
              clear hb2
              cases hQ : ((feat2 q.kind).1).inner
              · rw [hQ] at HEND
                clear hQ
                go_wp2
                go_ret
                exact ⟨by rw [HEND.out _ rfl]; rfl, HB2.out⟩
              · rw [hQ] at HEND
                clear hQ
                go_wp2
                go_ret
                exact ⟨by rw [HEND.out _ rfl]; rfl, HB2.out⟩
          · replace h5 := hid h5
            -- region 7
            go_upto_region 7 with fail
            refine lin_begin (St w [⟨w.heap.size, [some (.int .i64 (ti (x0.kind))), some (.int .i64 (ti (x0.entries))), some (.int .i64 (ti (x0.words))), some (.int .i64 (ti (x0.buckets))), some (.int .i64 (ti (x0.inner)))], 30⟩, ⟨k1, [some (.int .u64 (tn (((feat2 x0.kind).1).ops))), some (.bool (((feat2 x0.kind).1).words)), some (.bool (((feat2 x0.kind).1).buckets)), some (.bool (((feat2 x0.kind).1).spread)), some (.bool (((feat2 x0.kind).1).inner))], 45⟩]) rfl HS.out ?_
            refine lin_val (i := 0) (v := .int .i64 1) rfl rfl (by rfl) (by intro x hx; go_simp; (first | done | exact rfl)) ?_
            simp only [List.set_cons_succ, List.set_cons_zero]
            refine lin_done ?_
            intro W7 hx
            replace HS := hid hx
            clear hx
            go_wp2
            have HF : decl_checkOne x0 L len = 1#64 := by
              unfold decl_checkOne
              rw [cond_f h1.out, cond_f h2.out, cond_f h3.out, cond_f h4.out, cond_t h5.out]
            exact bodyPost_ret (v := .int .i64 1) (by simp [results, Tryd.results23, go_sem]) rfl ⟨(by first | (rw [HF]; done) | (rw [HF]; rfl)), HS.out.below⟩
        · replace h4 := hid h4
          -- region 7
          go_upto_region 7 with fail
          refine lin_begin (St w [⟨w.heap.size, [some (.int .i64 (ti (x0.kind))), some (.int .i64 (ti (x0.entries))), some (.int .i64 (ti (x0.words))), some (.int .i64 (ti (x0.buckets))), some (.int .i64 (ti (x0.inner)))], 30⟩, ⟨k1, [some (.int .u64 (tn (((feat2 x0.kind).1).ops))), some (.bool (((feat2 x0.kind).1).words)), some (.bool (((feat2 x0.kind).1).buckets)), some (.bool (((feat2 x0.kind).1).spread)), some (.bool (((feat2 x0.kind).1).inner))], 45⟩]) rfl HS.out ?_
          refine lin_val (i := 0) (v := .int .i64 1) rfl rfl (by rfl) (by intro x hx; go_simp; (first | done | exact rfl)) ?_
          simp only [List.set_cons_succ, List.set_cons_zero]
          refine lin_done ?_
          intro W6 hx
          replace HS := hid hx
          clear hx
          go_wp2
          have HF : decl_checkOne x0 L len = 1#64 := by
            unfold decl_checkOne
            rw [cond_f h1.out, cond_f h2.out, cond_f h3.out, cond_t h4.out]
          exact bodyPost_ret (v := .int .i64 1) (by simp [results, Tryd.results23, go_sem]) rfl ⟨(by first | (rw [HF]; done) | (rw [HF]; rfl)), HS.out.below⟩
      · replace h3 := hid h3
        -- region 7
        go_upto_region 7 with fail
        refine lin_begin (St w [⟨w.heap.size, [some (.int .i64 (ti (x0.kind))), some (.int .i64 (ti (x0.entries))), some (.int .i64 (ti (x0.words))), some (.int .i64 (ti (x0.buckets))), some (.int .i64 (ti (x0.inner)))], 30⟩, ⟨k1, [some (.int .u64 (tn (((feat2 x0.kind).1).ops))), some (.bool (((feat2 x0.kind).1).words)), some (.bool (((feat2 x0.kind).1).buckets)), some (.bool (((feat2 x0.kind).1).spread)), some (.bool (((feat2 x0.kind).1).inner))], 45⟩]) rfl HS.out ?_
        refine lin_val (i := 0) (v := .int .i64 1) rfl rfl (by rfl) (by intro x hx; go_simp; (first | done | exact rfl)) ?_
        simp only [List.set_cons_succ, List.set_cons_zero]
        refine lin_done ?_
        intro W5 hx
        replace HS := hid hx
        clear hx
        go_wp2
        have HF : decl_checkOne x0 L len = 1#64 := by
          unfold decl_checkOne
          rw [cond_f h1.out, cond_f h2.out, cond_t h3.out]
        exact bodyPost_ret (v := .int .i64 1) (by simp [results, Tryd.results23, go_sem]) rfl ⟨(by first | (rw [HF]; done) | (rw [HF]; rfl)), HS.out.below⟩
    · replace h2 := hid h2
      -- region 7
      go_upto_region 7 with fail
      refine lin_begin (St w [⟨w.heap.size, [some (.int .i64 (ti (x0.kind))), some (.int .i64 (ti (x0.entries))), some (.int .i64 (ti (x0.words))), some (.int .i64 (ti (x0.buckets))), some (.int .i64 (ti (x0.inner)))], 30⟩, ⟨k1, [some (.int .u64 (tn (((feat2 x0.kind).1).ops))), some (.bool (((feat2 x0.kind).1).words)), some (.bool (((feat2 x0.kind).1).buckets)), some (.bool (((feat2 x0.kind).1).spread)), some (.bool (((feat2 x0.kind).1).inner))], 45⟩]) rfl HS.out ?_
      refine lin_val (i := 0) (v := .int .i64 1) rfl rfl (by rfl) (by intro x hx; go_simp; (first | done | exact rfl)) ?_
      simp only [List.set_cons_succ, List.set_cons_zero]
      refine lin_done ?_
      intro W4 hx
      replace HS := hid hx
      clear hx
      go_wp2
      have HF : decl_checkOne x0 L len = 1#64 := by
        unfold decl_checkOne
        rw [cond_f h1.out, cond_t h2.out]
      exact bodyPost_ret (v := .int .i64 1) (by simp [results, Tryd.results23, go_sem]) rfl ⟨(by first | (rw [HF]; done) | (rw [HF]; rfl)), HS.out.below⟩
  · replace h1 := hid h1
    -- region 7
    go_upto_region 7 with fail
    refine lin_begin (St w [⟨w.heap.size, [some (.int .i64 (ti (x0.kind))), some (.int .i64 (ti (x0.entries))), some (.int .i64 (ti (x0.words))), some (.int .i64 (ti (x0.buckets))), some (.int .i64 (ti (x0.inner)))], 30⟩, ⟨k1, [some (.int .u64 (tn (((feat2 x0.kind).1).ops))), some (.bool (((feat2 x0.kind).1).words)), some (.bool (((feat2 x0.kind).1).buckets)), some (.bool (((feat2 x0.kind).1).spread)), some (.bool (((feat2 x0.kind).1).inner))], 45⟩]) rfl HS.out ?_
    refine lin_val (i := 0) (v := .int .i64 1) rfl rfl (by rfl) (by intro x hx; go_simp; (first | done | exact rfl)) ?_
    simp only [List.set_cons_succ, List.set_cons_zero]
    refine lin_done ?_
    intro W3 hx
    replace HS := hid hx
    clear hx
    go_wp2
    have HF : decl_checkOne x0 L len = 1#64 := by
      unfold decl_checkOne
      rw [cond_t h1.out]
    exact bodyPost_ret (v := .int .i64 1) (by simp [results, Tryd.results23, go_sem]) rfl ⟨(by first | (rw [HF]; done) | (rw [HF]; rfl)), HS.out.below⟩
end Go.Proofs.YtejcjjimhaokfaaDoor.Dcl
