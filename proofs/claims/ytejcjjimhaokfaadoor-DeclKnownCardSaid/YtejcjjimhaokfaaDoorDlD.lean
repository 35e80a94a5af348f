/-
  The contract of the document's one.
-/
import Derived.Test.YtejcjjimhaokfaaDoorDcE
import Derived.Test.YtejcjjimhaokfaaDoorDlB
namespace Go.Proofs.YtejcjjimhaokfaaDoor.Dcl
open Go.RowKit Go.Proofs.YtejcjjimhaokfaaDoor.Num Go.Proofs.YtejcjjimhaokfaaDoor.Up Go.Proofs.YtejcjjimhaokfaaDoor.Tn
def ref_one (x1 : Dc) (L : List Dc) (len : Nat)  : BitVec 64 :=
  bif (bif (bif (x1.kind == 3#64) then true else (x1.kind == 6#64)) then true else (x1.kind == 7#64)) then (bif (bif (bif (bif (bif (bif ltI x1.kind 1#64 then true else gtI x1.kind 10#64) then true else ltI x1.entries 1#64) then true else gtI x1.entries 64#64) then true else ltI x1.words 1#64) then true else gtI x1.words 4#64) then (1#64) else (bif (bif ((bif (bif (x1.kind == 4#64) then true else (x1.kind == 8#64)) then true else (x1.kind == 10#64)) != (x1.buckets != 0#64)) then true else (bif (bif (bif (x1.kind == 4#64) then true else (x1.kind == 8#64)) then true else (x1.kind == 10#64)) then (!(ref_power x1.buckets)) else false)) then (1#64) else (bif (!(bif (x1.kind == 9#64) then true else (x1.kind == 10#64))) then (bif (x1.inner != 0#64) then (1#64) else (0#64)) else (bif (bif ltI x1.inner 1#64 then true else gtI x1.inner (lenV len)) then (1#64) else (bif (bif ((L.getD (x1.inner.toNat - 1) dc0).kind == 9#64) then true else ((L.getD (x1.inner.toNat - 1) dc0).kind == 10#64)) then 14#64 else 0#64))))) else (bif (bif (bif (bif (bif (bif ltI x1.kind 1#64 then true else gtI x1.kind 10#64) then true else ltI x1.entries 1#64) then true else gtI x1.entries 64#64) then true else ltI x1.words 1#64) then true else gtI x1.words 1#64) then (1#64) else (bif (bif ((bif (bif (x1.kind == 4#64) then true else (x1.kind == 8#64)) then true else (x1.kind == 10#64)) != (x1.buckets != 0#64)) then true else (bif (bif (bif (x1.kind == 4#64) then true else (x1.kind == 8#64)) then true else (x1.kind == 10#64)) then (!(ref_power x1.buckets)) else false)) then (1#64) else (bif (!(bif (x1.kind == 9#64) then true else (x1.kind == 10#64))) then (bif (x1.inner != 0#64) then (1#64) else (0#64)) else (bif (bif ltI x1.inner 1#64 then true else gtI x1.inner (lenV len)) then (1#64) else (bif (bif ((L.getD (x1.inner.toNat - 1) dc0).kind == 9#64) then true else ((L.getD (x1.inner.toNat - 1) dc0).kind == 10#64)) then 14#64 else 0#64)))))
set_option maxRecDepth 100000 in
set_option maxHeartbeats 1000000 in
theorem ref_one_any (x1 : Dc) (L : List Dc) (len : Nat)  (a : Option Addr) (cap : Nat)  (w : World) (LN : len ≤ 1000) (A : ArgN w a len (L.map Dc.di)) :
    Calls Tryd.prog 24 #[.slice a len cap, .agg #[.int .i64 (ti (x1.kind)), .int .i64 (ti (x1.entries)), .int .i64 (ti (x1.words)), .int .i64 (ti (x1.buckets)), .int .i64 (ti (x1.inner))]] w fun e w' => e = .returned (.int .i64 (ti (ref_one x1 L len))) ∧ Below w.heap.size w w' := by
  have HLN := hid LN
  clear LN
  have HA := hid A
  clear A
  go_enter Tryd.func24, Tryd.ntmps24
  have HS := hid ((st_nil w).alloc (k := w.heap.size) rfl [.int .i64 (ti (x1.kind)), .int .i64 (ti (x1.entries)), .int .i64 (ti (x1.words)), .int .i64 (ti (x1.buckets)), .int .i64 (ti (x1.inner))] 30)
  -- region 1
  go_upto_region 1 with fail
  refine lin_begin (St w [⟨w.heap.size, [some (.int .i64 (ti (x1.kind))), some (.int .i64 (ti (x1.entries))), some (.int .i64 (ti (x1.words))), some (.int .i64 (ti (x1.buckets))), some (.int .i64 (ti (x1.inner)))], 30⟩]) rfl HS.out ?_
  refine lin_val (i := 0) (v := .int .i64 1) rfl rfl (by rfl) (by intro x hx; go_simp; (first | done | exact rfl)) ?_
  simp only [List.set_cons_succ, List.set_cons_zero]
  refine lin_done ?_
  intro W1 hx
  replace HS := hid hx
  clear hx
  -- region 2
  go_upto_region 2 with fail
  refine lin_begin (St w [⟨w.heap.size, [some (.int .i64 (ti (x1.kind))), some (.int .i64 (ti (x1.entries))), some (.int .i64 (ti (x1.words))), some (.int .i64 (ti (x1.buckets))), some (.int .i64 (ti (x1.inner)))], 30⟩]) rfl HS.out ?_
  refine lin_val (i := 0) (v := .pointer (some ⟨w.heap.size, 0, none⟩)) rfl rfl (by rfl) (by intro x hx; go_simp; (first | done | exact rfl)) ?_
  simp only [List.set_cons_succ, List.set_cons_zero]
  refine lin_val (i := 1) (v := .int .i64 (ti (x1.kind))) rfl rfl (by rfl) (by intro x hx; have f0 := hx.load 0 0 rfl rfl; go_simp; (first | done | exact rfl)) ?_
  simp only [List.set_cons_succ, List.set_cons_zero]
  refine lin_val (i := 2) (v := .bool ((x1.kind == 3#64))) rfl rfl (by rfl) (by intro x hx; go_simp; (first | done | exact eqIT x1.kind 3#64 | exact congrArg _ (eqIT x1.kind 3#64) | (rw [eqIT x1.kind 3#64]; done) | (rw [eqIT x1.kind 3#64]; rfl))) ?_
  simp only [List.set_cons_succ, List.set_cons_zero]
  refine lin_val (i := 3) (v := .bool ((x1.kind == 3#64))) rfl rfl (by rfl) (by intro x hx; go_simp; (first | done | exact rfl)) ?_
  simp only [List.set_cons_succ, List.set_cons_zero]
  refine lin_if (i := 4) (v := .pointer (some ⟨w.heap.size, 0, none⟩)) (!(x1.kind == 3#64)) rfl rfl (by generalize (x1.kind == 3#64) = gg0; cases gg0 <;> rfl) (by intro hb; have hb70 := hid (show ((x1.kind == 3#64)) = false from nnb hb); intro x hx; (try simp only [hb]); (try simp only [cond_true]); go_simp; (first | done | exact rfl)) ?_
  simp only [List.set_cons_succ, List.set_cons_zero]
  refine lin_if (i := 5) (v := .int .i64 (ti (x1.kind))) (!(x1.kind == 3#64)) rfl rfl (by generalize (x1.kind == 3#64) = gg0; cases gg0 <;> rfl) (by intro hb; have hb71 := hid (show ((x1.kind == 3#64)) = false from nnb hb); intro x hx; (try simp only [hb]); (try simp only [cond_true]); have f0 := hx.load 0 0 rfl rfl; go_simp; (first | done | exact rfl)) ?_
  simp only [List.set_cons_succ, List.set_cons_zero]
  refine lin_if (i := 6) (v := .bool ((x1.kind == 6#64))) (!(x1.kind == 3#64)) rfl rfl (by generalize (x1.kind == 3#64) = gg0; cases gg0 <;> rfl) (by intro hb; have hb72 := hid (show ((x1.kind == 3#64)) = false from nnb hb); intro x hx; (try simp only [hb]); (try simp only [cond_true]); go_simp; (first | done | exact eqIT x1.kind 6#64 | exact congrArg _ (eqIT x1.kind 6#64) | (rw [eqIT x1.kind 6#64]; done) | (rw [eqIT x1.kind 6#64]; rfl))) ?_
  simp only [List.set_cons_succ, List.set_cons_zero]
  refine lin_val (i := 7) (v := .bool ((bif (x1.kind == 3#64) then true else (x1.kind == 6#64)))) rfl rfl (by rfl) (by intro x hx; (cases hq : ((x1.kind == 3#64)) <;> first | rfl | (simp only [hq]; rfl) | simp [hq])) ?_
  simp only [List.set_cons_succ, List.set_cons_zero]
  refine lin_val (i := 8) (v := .bool ((bif (x1.kind == 3#64) then true else (x1.kind == 6#64)))) rfl rfl (by rfl) (by intro x hx; go_simp; (first | done | exact rfl)) ?_
  simp only [List.set_cons_succ, List.set_cons_zero]
  refine lin_if (i := 9) (v := .pointer (some ⟨w.heap.size, 0, none⟩)) (!(bif (x1.kind == 3#64) then true else (x1.kind == 6#64))) rfl rfl (by generalize (bif (x1.kind == 3#64) then true else (x1.kind == 6#64)) = gg0; cases gg0 <;> rfl) (by intro hb; have hb73 := hid (show ((bif (x1.kind == 3#64) then true else (x1.kind == 6#64))) = false from nnb hb); intro x hx; (try simp only [hb]); (try simp only [cond_true]); go_simp; (first | done | exact rfl)) ?_
  simp only [List.set_cons_succ, List.set_cons_zero]
  refine lin_if (i := 10) (v := .int .i64 (ti (x1.kind))) (!(bif (x1.kind == 3#64) then true else (x1.kind == 6#64))) rfl rfl (by generalize (bif (x1.kind == 3#64) then true else (x1.kind == 6#64)) = gg0; cases gg0 <;> rfl) (by intro hb; have hb74 := hid (show ((bif (x1.kind == 3#64) then true else (x1.kind == 6#64))) = false from nnb hb); intro x hx; (try simp only [hb]); (try simp only [cond_true]); have f0 := hx.load 0 0 rfl rfl; go_simp; (first | done | exact rfl)) ?_
  simp only [List.set_cons_succ, List.set_cons_zero]
  refine lin_if (i := 11) (v := .bool ((x1.kind == 7#64))) (!(bif (x1.kind == 3#64) then true else (x1.kind == 6#64))) rfl rfl (by generalize (bif (x1.kind == 3#64) then true else (x1.kind == 6#64)) = gg0; cases gg0 <;> rfl) (by intro hb; have hb75 := hid (show ((bif (x1.kind == 3#64) then true else (x1.kind == 6#64))) = false from nnb hb); intro x hx; (try simp only [hb]); (try simp only [cond_true]); go_simp; (first | done | exact eqIT x1.kind 7#64 | exact congrArg _ (eqIT x1.kind 7#64) | (rw [eqIT x1.kind 7#64]; done) | (rw [eqIT x1.kind 7#64]; rfl))) ?_
  simp only [List.set_cons_succ, List.set_cons_zero]
  refine lin_val (i := 12) (v := .bool ((bif (bif (x1.kind == 3#64) then true else (x1.kind == 6#64)) then true else (x1.kind == 7#64)))) rfl rfl (by rfl) (by intro x hx; (cases hq : ((bif (x1.kind == 3#64) then true else (x1.kind == 6#64))) <;> first | rfl | (simp only [hq]; rfl) | simp [hq])) ?_
  simp only [List.set_cons_succ, List.set_cons_zero]
  refine lin_done ?_
  intro W2 hx
  replace HS := hid hx
  clear hx
  cases h1 : ((bif (bif (x1.kind == 3#64) then true else (x1.kind == 6#64)) then true else (x1.kind == 7#64)))
  · replace h1 := hid h1
    -- region 4
    go_upto_region 4 with fail
    refine lin_begin (St w [⟨w.heap.size, [some (.int .i64 (ti (x1.kind))), some (.int .i64 (ti (x1.entries))), some (.int .i64 (ti (x1.words))), some (.int .i64 (ti (x1.buckets))), some (.int .i64 (ti (x1.inner)))], 30⟩]) rfl HS.out ?_
    refine lin_val (i := 0) (v := .pointer (some ⟨w.heap.size, 0, none⟩)) rfl rfl (by rfl) (by intro x hx; go_simp; (first | done | exact rfl)) ?_
    simp only [List.set_cons_succ, List.set_cons_zero]
    refine lin_val (i := 1) (v := .int .i64 (ti (x1.kind))) rfl rfl (by rfl) (by intro x hx; have f0 := hx.load 0 0 rfl rfl; go_simp; (first | done | exact rfl)) ?_
    simp only [List.set_cons_succ, List.set_cons_zero]
    refine lin_val (i := 2) (v := .bool (ltI x1.kind 1#64)) rfl rfl (by rfl) (by intro x hx; go_simp; (first | done | exact ltIT x1.kind 1#64 | exact congrArg _ (ltIT x1.kind 1#64) | (rw [ltIT x1.kind 1#64]; done) | (rw [ltIT x1.kind 1#64]; rfl))) ?_
    simp only [List.set_cons_succ, List.set_cons_zero]
    refine lin_val (i := 3) (v := .bool (ltI x1.kind 1#64)) rfl rfl (by rfl) (by intro x hx; go_simp; (first | done | exact rfl)) ?_
    simp only [List.set_cons_succ, List.set_cons_zero]
    refine lin_if (i := 4) (v := .pointer (some ⟨w.heap.size, 0, none⟩)) (!(ltI x1.kind 1#64)) rfl rfl (by generalize (ltI x1.kind 1#64) = gg0; cases gg0 <;> rfl) (by intro hb; have hb76 := hid (show (ltI x1.kind 1#64) = false from nnb hb); intro x hx; (try simp only [hb]); (try simp only [cond_true]); go_simp; (first | done | exact rfl)) ?_
    simp only [List.set_cons_succ, List.set_cons_zero]
    refine lin_if (i := 5) (v := .int .i64 (ti (x1.kind))) (!(ltI x1.kind 1#64)) rfl rfl (by generalize (ltI x1.kind 1#64) = gg0; cases gg0 <;> rfl) (by intro hb; have hb77 := hid (show (ltI x1.kind 1#64) = false from nnb hb); intro x hx; (try simp only [hb]); (try simp only [cond_true]); have f0 := hx.load 0 0 rfl rfl; go_simp; (first | done | exact rfl)) ?_
    simp only [List.set_cons_succ, List.set_cons_zero]
    refine lin_if (i := 6) (v := .bool (gtI x1.kind 10#64)) (!(ltI x1.kind 1#64)) rfl rfl (by generalize (ltI x1.kind 1#64) = gg0; cases gg0 <;> rfl) (by intro hb; have hb78 := hid (show (ltI x1.kind 1#64) = false from nnb hb); intro x hx; (try simp only [hb]); (try simp only [cond_true]); go_simp; (first | done | exact gtIT x1.kind 10#64 | exact congrArg _ (gtIT x1.kind 10#64) | (rw [gtIT x1.kind 10#64]; done) | (rw [gtIT x1.kind 10#64]; rfl))) ?_
    simp only [List.set_cons_succ, List.set_cons_zero]
    refine lin_val (i := 7) (v := .bool ((bif ltI x1.kind 1#64 then true else gtI x1.kind 10#64))) rfl rfl (by rfl) (by intro x hx; (cases hq : (ltI x1.kind 1#64) <;> first | rfl | (simp only [hq]; rfl) | simp [hq])) ?_
    simp only [List.set_cons_succ, List.set_cons_zero]
    refine lin_val (i := 8) (v := .bool ((bif ltI x1.kind 1#64 then true else gtI x1.kind 10#64))) rfl rfl (by rfl) (by intro x hx; go_simp; (first | done | exact rfl)) ?_
    simp only [List.set_cons_succ, List.set_cons_zero]
    refine lin_if (i := 9) (v := .pointer (some ⟨w.heap.size, 1, none⟩)) (!(bif ltI x1.kind 1#64 then true else gtI x1.kind 10#64)) rfl rfl (by generalize (bif ltI x1.kind 1#64 then true else gtI x1.kind 10#64) = gg0; cases gg0 <;> rfl) (by intro hb; have hb79 := hid (show ((bif ltI x1.kind 1#64 then true else gtI x1.kind 10#64)) = false from nnb hb); intro x hx; (try simp only [hb]); (try simp only [cond_true]); go_simp; (first | done | exact rfl)) ?_
    simp only [List.set_cons_succ, List.set_cons_zero]
    refine lin_if (i := 10) (v := .int .i64 (ti (x1.entries))) (!(bif ltI x1.kind 1#64 then true else gtI x1.kind 10#64)) rfl rfl (by generalize (bif ltI x1.kind 1#64 then true else gtI x1.kind 10#64) = gg0; cases gg0 <;> rfl) (by intro hb; have hb80 := hid (show ((bif ltI x1.kind 1#64 then true else gtI x1.kind 10#64)) = false from nnb hb); intro x hx; (try simp only [hb]); (try simp only [cond_true]); have f0 := hx.load 0 1 rfl rfl; go_simp; (first | done | exact rfl)) ?_
    simp only [List.set_cons_succ, List.set_cons_zero]
    refine lin_if (i := 11) (v := .bool (ltI x1.entries 1#64)) (!(bif ltI x1.kind 1#64 then true else gtI x1.kind 10#64)) rfl rfl (by generalize (bif ltI x1.kind 1#64 then true else gtI x1.kind 10#64) = gg0; cases gg0 <;> rfl) (by intro hb; have hb81 := hid (show ((bif ltI x1.kind 1#64 then true else gtI x1.kind 10#64)) = false from nnb hb); intro x hx; (try simp only [hb]); (try simp only [cond_true]); go_simp; (first | done | exact ltIT x1.entries 1#64 | exact congrArg _ (ltIT x1.entries 1#64) | (rw [ltIT x1.entries 1#64]; done) | (rw [ltIT x1.entries 1#64]; rfl))) ?_
    simp only [List.set_cons_succ, List.set_cons_zero]
    refine lin_val (i := 12) (v := .bool ((bif (bif ltI x1.kind 1#64 then true else gtI x1.kind 10#64) then true else ltI x1.entries 1#64))) rfl rfl (by rfl) (by intro x hx; (cases hq : ((bif ltI x1.kind 1#64 then true else gtI x1.kind 10#64)) <;> first | rfl | (simp only [hq]; rfl) | simp [hq])) ?_
    simp only [List.set_cons_succ, List.set_cons_zero]
    refine lin_val (i := 13) (v := .bool ((bif (bif ltI x1.kind 1#64 then true else gtI x1.kind 10#64) then true else ltI x1.entries 1#64))) rfl rfl (by rfl) (by intro x hx; go_simp; (first | done | exact rfl)) ?_
    simp only [List.set_cons_succ, List.set_cons_zero]
    refine lin_if (i := 14) (v := .pointer (some ⟨w.heap.size, 1, none⟩)) (!(bif (bif ltI x1.kind 1#64 then true else gtI x1.kind 10#64) then true else ltI x1.entries 1#64)) rfl rfl (by generalize (bif (bif ltI x1.kind 1#64 then true else gtI x1.kind 10#64) then true else ltI x1.entries 1#64) = gg0; cases gg0 <;> rfl) (by intro hb; have hb82 := hid (show ((bif (bif ltI x1.kind 1#64 then true else gtI x1.kind 10#64) then true else ltI x1.entries 1#64)) = false from nnb hb); intro x hx; (try simp only [hb]); (try simp only [cond_true]); go_simp; (first | done | exact rfl)) ?_
    simp only [List.set_cons_succ, List.set_cons_zero]
    refine lin_if (i := 15) (v := .int .i64 (ti (x1.entries))) (!(bif (bif ltI x1.kind 1#64 then true else gtI x1.kind 10#64) then true else ltI x1.entries 1#64)) rfl rfl (by generalize (bif (bif ltI x1.kind 1#64 then true else gtI x1.kind 10#64) then true else ltI x1.entries 1#64) = gg0; cases gg0 <;> rfl) (by intro hb; have hb83 := hid (show ((bif (bif ltI x1.kind 1#64 then true else gtI x1.kind 10#64) then true else ltI x1.entries 1#64)) = false from nnb hb); intro x hx; (try simp only [hb]); (try simp only [cond_true]); have f0 := hx.load 0 1 rfl rfl; go_simp; (first | done | exact rfl)) ?_
    simp only [List.set_cons_succ, List.set_cons_zero]
    refine lin_if (i := 16) (v := .bool (gtI x1.entries 64#64)) (!(bif (bif ltI x1.kind 1#64 then true else gtI x1.kind 10#64) then true else ltI x1.entries 1#64)) rfl rfl (by generalize (bif (bif ltI x1.kind 1#64 then true else gtI x1.kind 10#64) then true else ltI x1.entries 1#64) = gg0; cases gg0 <;> rfl) (by intro hb; have hb84 := hid (show ((bif (bif ltI x1.kind 1#64 then true else gtI x1.kind 10#64) then true else ltI x1.entries 1#64)) = false from nnb hb); intro x hx; (try simp only [hb]); (try simp only [cond_true]); go_simp; (first | done | exact gtIT x1.entries 64#64 | exact congrArg _ (gtIT x1.entries 64#64) | (rw [gtIT x1.entries 64#64]; done) | (rw [gtIT x1.entries 64#64]; rfl))) ?_
    simp only [List.set_cons_succ, List.set_cons_zero]
    refine lin_val (i := 17) (v := .bool ((bif (bif (bif ltI x1.kind 1#64 then true else gtI x1.kind 10#64) then true else ltI x1.entries 1#64) then true else gtI x1.entries 64#64))) rfl rfl (by rfl) (by intro x hx; (cases hq : ((bif (bif ltI x1.kind 1#64 then true else gtI x1.kind 10#64) then true else ltI x1.entries 1#64)) <;> first | rfl | (simp only [hq]; rfl) | simp [hq])) ?_
    simp only [List.set_cons_succ, List.set_cons_zero]
    refine lin_val (i := 18) (v := .bool ((bif (bif (bif ltI x1.kind 1#64 then true else gtI x1.kind 10#64) then true else ltI x1.entries 1#64) then true else gtI x1.entries 64#64))) rfl rfl (by rfl) (by intro x hx; go_simp; (first | done | exact rfl)) ?_
    simp only [List.set_cons_succ, List.set_cons_zero]
    refine lin_if (i := 19) (v := .pointer (some ⟨w.heap.size, 2, none⟩)) (!(bif (bif (bif ltI x1.kind 1#64 then true else gtI x1.kind 10#64) then true else ltI x1.entries 1#64) then true else gtI x1.entries 64#64)) rfl rfl (by generalize (bif (bif (bif ltI x1.kind 1#64 then true else gtI x1.kind 10#64) then true else ltI x1.entries 1#64) then true else gtI x1.entries 64#64) = gg0; cases gg0 <;> rfl) (by intro hb; have hb85 := hid (show ((bif (bif (bif ltI x1.kind 1#64 then true else gtI x1.kind 10#64) then true else ltI x1.entries 1#64) then true else gtI x1.entries 64#64)) = false from nnb hb); intro x hx; (try simp only [hb]); (try simp only [cond_true]); go_simp; (first | done | exact rfl)) ?_
    simp only [List.set_cons_succ, List.set_cons_zero]
    refine lin_if (i := 20) (v := .int .i64 (ti (x1.words))) (!(bif (bif (bif ltI x1.kind 1#64 then true else gtI x1.kind 10#64) then true else ltI x1.entries 1#64) then true else gtI x1.entries 64#64)) rfl rfl (by generalize (bif (bif (bif ltI x1.kind 1#64 then true else gtI x1.kind 10#64) then true else ltI x1.entries 1#64) then true else gtI x1.entries 64#64) = gg0; cases gg0 <;> rfl) (by intro hb; have hb86 := hid (show ((bif (bif (bif ltI x1.kind 1#64 then true else gtI x1.kind 10#64) then true else ltI x1.entries 1#64) then true else gtI x1.entries 64#64)) = false from nnb hb); intro x hx; (try simp only [hb]); (try simp only [cond_true]); have f0 := hx.load 0 2 rfl rfl; go_simp; (first | done | exact rfl)) ?_
    simp only [List.set_cons_succ, List.set_cons_zero]
    refine lin_if (i := 21) (v := .bool (ltI x1.words 1#64)) (!(bif (bif (bif ltI x1.kind 1#64 then true else gtI x1.kind 10#64) then true else ltI x1.entries 1#64) then true else gtI x1.entries 64#64)) rfl rfl (by generalize (bif (bif (bif ltI x1.kind 1#64 then true else gtI x1.kind 10#64) then true else ltI x1.entries 1#64) then true else gtI x1.entries 64#64) = gg0; cases gg0 <;> rfl) (by intro hb; have hb87 := hid (show ((bif (bif (bif ltI x1.kind 1#64 then true else gtI x1.kind 10#64) then true else ltI x1.entries 1#64) then true else gtI x1.entries 64#64)) = false from nnb hb); intro x hx; (try simp only [hb]); (try simp only [cond_true]); go_simp; (first | done | exact ltIT x1.words 1#64 | exact congrArg _ (ltIT x1.words 1#64) | (rw [ltIT x1.words 1#64]; done) | (rw [ltIT x1.words 1#64]; rfl))) ?_
    simp only [List.set_cons_succ, List.set_cons_zero]
    refine lin_val (i := 22) (v := .bool ((bif (bif (bif (bif ltI x1.kind 1#64 then true else gtI x1.kind 10#64) then true else ltI x1.entries 1#64) then true else gtI x1.entries 64#64) then true else ltI x1.words 1#64))) rfl rfl (by rfl) (by intro x hx; (cases hq : ((bif (bif (bif ltI x1.kind 1#64 then true else gtI x1.kind 10#64) then true else ltI x1.entries 1#64) then true else gtI x1.entries 64#64)) <;> first | rfl | (simp only [hq]; rfl) | simp [hq])) ?_
    simp only [List.set_cons_succ, List.set_cons_zero]
    refine lin_val (i := 23) (v := .bool ((bif (bif (bif (bif ltI x1.kind 1#64 then true else gtI x1.kind 10#64) then true else ltI x1.entries 1#64) then true else gtI x1.entries 64#64) then true else ltI x1.words 1#64))) rfl rfl (by rfl) (by intro x hx; go_simp; (first | done | exact rfl)) ?_
    simp only [List.set_cons_succ, List.set_cons_zero]
    refine lin_if (i := 24) (v := .pointer (some ⟨w.heap.size, 2, none⟩)) (!(bif (bif (bif (bif ltI x1.kind 1#64 then true else gtI x1.kind 10#64) then true else ltI x1.entries 1#64) then true else gtI x1.entries 64#64) then true else ltI x1.words 1#64)) rfl rfl (by generalize (bif (bif (bif (bif ltI x1.kind 1#64 then true else gtI x1.kind 10#64) then true else ltI x1.entries 1#64) then true else gtI x1.entries 64#64) then true else ltI x1.words 1#64) = gg0; cases gg0 <;> rfl) (by intro hb; have hb88 := hid (show ((bif (bif (bif (bif ltI x1.kind 1#64 then true else gtI x1.kind 10#64) then true else ltI x1.entries 1#64) then true else gtI x1.entries 64#64) then true else ltI x1.words 1#64)) = false from nnb hb); intro x hx; (try simp only [hb]); (try simp only [cond_true]); go_simp; (first | done | exact rfl)) ?_
    simp only [List.set_cons_succ, List.set_cons_zero]
    refine lin_if (i := 25) (v := .int .i64 (ti (x1.words))) (!(bif (bif (bif (bif ltI x1.kind 1#64 then true else gtI x1.kind 10#64) then true else ltI x1.entries 1#64) then true else gtI x1.entries 64#64) then true else ltI x1.words 1#64)) rfl rfl (by generalize (bif (bif (bif (bif ltI x1.kind 1#64 then true else gtI x1.kind 10#64) then true else ltI x1.entries 1#64) then true else gtI x1.entries 64#64) then true else ltI x1.words 1#64) = gg0; cases gg0 <;> rfl) (by intro hb; have hb89 := hid (show ((bif (bif (bif (bif ltI x1.kind 1#64 then true else gtI x1.kind 10#64) then true else ltI x1.entries 1#64) then true else gtI x1.entries 64#64) then true else ltI x1.words 1#64)) = false from nnb hb); intro x hx; (try simp only [hb]); (try simp only [cond_true]); have f0 := hx.load 0 2 rfl rfl; go_simp; (first | done | exact rfl)) ?_
    simp only [List.set_cons_succ, List.set_cons_zero]
    refine lin_if (i := 26) (v := .int .i64 1) (!(bif (bif (bif (bif ltI x1.kind 1#64 then true else gtI x1.kind 10#64) then true else ltI x1.entries 1#64) then true else gtI x1.entries 64#64) then true else ltI x1.words 1#64)) rfl rfl (by generalize (bif (bif (bif (bif ltI x1.kind 1#64 then true else gtI x1.kind 10#64) then true else ltI x1.entries 1#64) then true else gtI x1.entries 64#64) then true else ltI x1.words 1#64) = gg0; cases gg0 <;> rfl) (by intro hb; have hb90 := hid (show ((bif (bif (bif (bif ltI x1.kind 1#64 then true else gtI x1.kind 10#64) then true else ltI x1.entries 1#64) then true else gtI x1.entries 64#64) then true else ltI x1.words 1#64)) = false from nnb hb); intro x hx; (try simp only [hb]); (try simp only [cond_true]); go_simp; (first | done | exact rfl)) ?_
    simp only [List.set_cons_succ, List.set_cons_zero]
    refine lin_if (i := 27) (v := .bool (gtI x1.words 1#64)) (!(bif (bif (bif (bif ltI x1.kind 1#64 then true else gtI x1.kind 10#64) then true else ltI x1.entries 1#64) then true else gtI x1.entries 64#64) then true else ltI x1.words 1#64)) rfl rfl (by generalize (bif (bif (bif (bif ltI x1.kind 1#64 then true else gtI x1.kind 10#64) then true else ltI x1.entries 1#64) then true else gtI x1.entries 64#64) then true else ltI x1.words 1#64) = gg0; cases gg0 <;> rfl) (by intro hb; have hb91 := hid (show ((bif (bif (bif (bif ltI x1.kind 1#64 then true else gtI x1.kind 10#64) then true else ltI x1.entries 1#64) then true else gtI x1.entries 64#64) then true else ltI x1.words 1#64)) = false from nnb hb); intro x hx; (try simp only [hb]); (try simp only [cond_true]); go_simp; (first | done | exact gtIT x1.words 1#64 | exact congrArg _ (gtIT x1.words 1#64) | (rw [gtIT x1.words 1#64]; done) | (rw [gtIT x1.words 1#64]; rfl))) ?_
    simp only [List.set_cons_succ, List.set_cons_zero]
    refine lin_val (i := 28) (v := .bool ((bif (bif (bif (bif (bif ltI x1.kind 1#64 then true else gtI x1.kind 10#64) then true else ltI x1.entries 1#64) then true else gtI x1.entries 64#64) then true else ltI x1.words 1#64) then true else gtI x1.words 1#64))) rfl rfl (by rfl) (by intro x hx; (cases hq : ((bif (bif (bif (bif ltI x1.kind 1#64 then true else gtI x1.kind 10#64) then true else ltI x1.entries 1#64) then true else gtI x1.entries 64#64) then true else ltI x1.words 1#64)) <;> first | rfl | (simp only [hq]; rfl) | simp [hq])) ?_
    simp only [List.set_cons_succ, List.set_cons_zero]
    refine lin_done ?_
    intro W3 hx
    replace HS := hid hx
    clear hx
    cases h2 : ((bif (bif (bif (bif (bif ltI x1.kind 1#64 then true else gtI x1.kind 10#64) then true else ltI x1.entries 1#64) then true else gtI x1.entries 64#64) then true else ltI x1.words 1#64) then true else gtI x1.words 1#64))
    · replace h2 := hid h2
      -- region 6
      go_upto_region 6 with fail
      refine up_begin (St w [⟨w.heap.size, [some (.int .i64 (ti (x1.kind))), some (.int .i64 (ti (x1.entries))), some (.int .i64 (ti (x1.words))), some (.int .i64 (ti (x1.buckets))), some (.int .i64 (ti (x1.inner)))], 30⟩]) 18 rfl (by kernel_rfl) (HS.out.drew) ?_
      refine take_val (i := 0) (v := .pointer (some ⟨w.heap.size, 0, none⟩)) (st_ups _ _) rfl rfl (by kernel_rfl) (fun _ _ _ h => h) (by rfl) (by intro x hx; go_simp; (first | done | exact rfl)) ?_
      simp only [List.set_cons_succ, List.set_cons_zero]
      refine take_val (i := 1) (v := .int .i64 (ti (x1.kind))) (st_ups _ _) rfl rfl (by kernel_rfl) (fun _ _ _ h => h) (by rfl) (by intro x hx; have f0 := hx.load 0 0 rfl rfl; go_simp; (first | done | exact rfl)) ?_
      simp only [List.set_cons_succ, List.set_cons_zero]
      refine take_call (i := 2) (f := 32) (args := #[.int .i64 (ti (x1.kind))]) (v := .bool ((bif (bif (x1.kind == 4#64) then true else (x1.kind == 8#64)) then true else (x1.kind == 10#64)))) (st_ups _ _) rfl rfl (by kernel_rfl) (fun _ _ _ h => h) (by rfl) (fun x hx => by kernel_rfl) (by intro x hx; exact ref_bucketed_any x1.kind _) ?_
      simp only [List.set_cons_succ, List.set_cons_zero]
      refine take_val (i := 3) (v := .pointer (some ⟨w.heap.size, 3, none⟩)) (st_ups _ _) rfl rfl (by kernel_rfl) (fun _ _ _ h => h) (by rfl) (by intro x hx; go_simp; (first | done | exact rfl)) ?_
      simp only [List.set_cons_succ, List.set_cons_zero]
      refine take_val (i := 4) (v := .int .i64 (ti (x1.buckets))) (st_ups _ _) rfl rfl (by kernel_rfl) (fun _ _ _ h => h) (by rfl) (by intro x hx; have f0 := hx.load 0 3 rfl rfl; go_simp; (first | done | exact rfl)) ?_
      simp only [List.set_cons_succ, List.set_cons_zero]
      refine take_val (i := 5) (v := .bool ((x1.buckets != 0#64))) (st_ups _ _) rfl rfl (by kernel_rfl) (fun _ _ _ h => h) (by rfl) (by intro x hx; go_simp; (first | done | exact neIT x1.buckets 0#64 | exact congrArg _ (neIT x1.buckets 0#64) | (rw [neIT x1.buckets 0#64]; done) | (rw [neIT x1.buckets 0#64]; rfl))) ?_
      simp only [List.set_cons_succ, List.set_cons_zero]
      refine take_val (i := 6) (v := .bool (((bif (bif (x1.kind == 4#64) then true else (x1.kind == 8#64)) then true else (x1.kind == 10#64)) != (x1.buckets != 0#64)))) (st_ups _ _) rfl rfl (by kernel_rfl) (fun _ _ _ h => h) (by rfl) (by intro x hx; go_simp; (first | done | exact neB (bif (bif (x1.kind == 4#64) then true else (x1.kind == 8#64)) then true else (x1.kind == 10#64)) (x1.buckets != 0#64) | exact congrArg _ (neB (bif (bif (x1.kind == 4#64) then true else (x1.kind == 8#64)) then true else (x1.kind == 10#64)) (x1.buckets != 0#64)) | (rw [neB (bif (bif (x1.kind == 4#64) then true else (x1.kind == 8#64)) then true else (x1.kind == 10#64)) (x1.buckets != 0#64)]; done) | (rw [neB (bif (bif (x1.kind == 4#64) then true else (x1.kind == 8#64)) then true else (x1.kind == 10#64)) (x1.buckets != 0#64)]; rfl))) ?_
      simp only [List.set_cons_succ, List.set_cons_zero]
      refine take_val (i := 7) (v := .bool (((bif (bif (x1.kind == 4#64) then true else (x1.kind == 8#64)) then true else (x1.kind == 10#64)) != (x1.buckets != 0#64)))) (st_ups _ _) rfl rfl (by kernel_rfl) (fun _ _ _ h => h) (by rfl) (by intro x hx; go_simp; (first | done | exact rfl)) ?_
      simp only [List.set_cons_succ, List.set_cons_zero]
      refine take_if (i := 8) (v := .pointer (some ⟨w.heap.size, 0, none⟩)) (!((bif (bif (x1.kind == 4#64) then true else (x1.kind == 8#64)) then true else (x1.kind == 10#64)) != (x1.buckets != 0#64))) (st_ups _ _) rfl rfl (by kernel_rfl) (fun _ _ _ _ h => h) (by generalize ((bif (bif (x1.kind == 4#64) then true else (x1.kind == 8#64)) then true else (x1.kind == 10#64)) != (x1.buckets != 0#64)) = gg0; cases gg0 <;> rfl) (by intro hb; have hb92 := hid (show (((bif (bif (x1.kind == 4#64) then true else (x1.kind == 8#64)) then true else (x1.kind == 10#64)) != (x1.buckets != 0#64))) = false from nnb hb); intro x hx; (try simp only [hb]); (try simp only [cond_true]); go_simp; (first | done | exact rfl)) ?_
      simp only [List.set_cons_succ, List.set_cons_zero]
      refine take_if (i := 9) (v := .int .i64 (ti (x1.kind))) (!((bif (bif (x1.kind == 4#64) then true else (x1.kind == 8#64)) then true else (x1.kind == 10#64)) != (x1.buckets != 0#64))) (st_ups _ _) rfl rfl (by kernel_rfl) (fun _ _ _ _ h => h) (by generalize ((bif (bif (x1.kind == 4#64) then true else (x1.kind == 8#64)) then true else (x1.kind == 10#64)) != (x1.buckets != 0#64)) = gg0; cases gg0 <;> rfl) (by intro hb; have hb93 := hid (show (((bif (bif (x1.kind == 4#64) then true else (x1.kind == 8#64)) then true else (x1.kind == 10#64)) != (x1.buckets != 0#64))) = false from nnb hb); intro x hx; (try simp only [hb]); (try simp only [cond_true]); have f0 := hx.load 0 0 rfl rfl; go_simp; (first | done | exact rfl)) ?_
      simp only [List.set_cons_succ, List.set_cons_zero]
      refine take_if_call (i := 10) (f := 32) (args := #[.int .i64 (ti (x1.kind))]) (v := .bool ((bif (bif (x1.kind == 4#64) then true else (x1.kind == 8#64)) then true else (x1.kind == 10#64)))) (!((bif (bif (x1.kind == 4#64) then true else (x1.kind == 8#64)) then true else (x1.kind == 10#64)) != (x1.buckets != 0#64))) (st_ups _ _) rfl rfl (by kernel_rfl) (fun _ _ _ _ h => h) (by generalize ((bif (bif (x1.kind == 4#64) then true else (x1.kind == 8#64)) then true else (x1.kind == 10#64)) != (x1.buckets != 0#64)) = gg0; cases gg0 <;> rfl) (by intro hb; have hb94 := hid (show (((bif (bif (x1.kind == 4#64) then true else (x1.kind == 8#64)) then true else (x1.kind == 10#64)) != (x1.buckets != 0#64))) = false from nnb hb); intro x hx; (try simp only [hb]); (try simp only [cond_true]); kernel_rfl) (by intro hb; have hb94 := hid (show (((bif (bif (x1.kind == 4#64) then true else (x1.kind == 8#64)) then true else (x1.kind == 10#64)) != (x1.buckets != 0#64))) = false from nnb hb); intro x hx; exact ref_bucketed_any x1.kind _) ?_
      simp only [List.set_cons_succ, List.set_cons_zero]
      refine take_if (i := 11) (v := .bool ((bif (bif (x1.kind == 4#64) then true else (x1.kind == 8#64)) then true else (x1.kind == 10#64)))) (!((bif (bif (x1.kind == 4#64) then true else (x1.kind == 8#64)) then true else (x1.kind == 10#64)) != (x1.buckets != 0#64))) (st_ups _ _) rfl rfl (by kernel_rfl) (fun _ _ _ _ h => h) (by generalize ((bif (bif (x1.kind == 4#64) then true else (x1.kind == 8#64)) then true else (x1.kind == 10#64)) != (x1.buckets != 0#64)) = gg0; cases gg0 <;> rfl) (by intro hb; have hb95 := hid (show (((bif (bif (x1.kind == 4#64) then true else (x1.kind == 8#64)) then true else (x1.kind == 10#64)) != (x1.buckets != 0#64))) = false from nnb hb); intro x hx; (try simp only [hb]); (try simp only [cond_true]); go_simp; (first | done | exact rfl)) ?_
      simp only [List.set_cons_succ, List.set_cons_zero]
      refine take_if (i := 12) (v := .pointer (some ⟨w.heap.size, 3, none⟩)) ((!((bif (bif (x1.kind == 4#64) then true else (x1.kind == 8#64)) then true else (x1.kind == 10#64)) != (x1.buckets != 0#64))) && (bif (bif (x1.kind == 4#64) then true else (x1.kind == 8#64)) then true else (x1.kind == 10#64))) (st_ups _ _) rfl rfl (by kernel_rfl) (fun _ _ _ _ h => h) (by generalize ((bif (bif (x1.kind == 4#64) then true else (x1.kind == 8#64)) then true else (x1.kind == 10#64)) != (x1.buckets != 0#64)) = gg0; cases gg0 <;> (generalize (bif (bif (x1.kind == 4#64) then true else (x1.kind == 8#64)) then true else (x1.kind == 10#64)) = gg1; cases gg1) <;> rfl) (by intro hb; obtain ⟨hl1, hr1⟩ := Bool.and_eq_true_iff.1 hb; have hb96_1 := hid (show ((bif (bif (x1.kind == 4#64) then true else (x1.kind == 8#64)) then true else (x1.kind == 10#64))) = true from hr1); have hb96_0 := hid (show (((bif (bif (x1.kind == 4#64) then true else (x1.kind == 8#64)) then true else (x1.kind == 10#64)) != (x1.buckets != 0#64))) = false from nnb hl1); intro x hx; (try simp only [hb]); (try simp only [hl1]); (try simp only [hr1]); (try simp only [cond_true]); go_simp; (first | done | exact rfl)) ?_
      simp only [List.set_cons_succ, List.set_cons_zero]
      refine take_if (i := 13) (v := .int .i64 (ti (x1.buckets))) ((!((bif (bif (x1.kind == 4#64) then true else (x1.kind == 8#64)) then true else (x1.kind == 10#64)) != (x1.buckets != 0#64))) && (bif (bif (x1.kind == 4#64) then true else (x1.kind == 8#64)) then true else (x1.kind == 10#64))) (st_ups _ _) rfl rfl (by kernel_rfl) (fun _ _ _ _ h => h) (by generalize ((bif (bif (x1.kind == 4#64) then true else (x1.kind == 8#64)) then true else (x1.kind == 10#64)) != (x1.buckets != 0#64)) = gg0; cases gg0 <;> (generalize (bif (bif (x1.kind == 4#64) then true else (x1.kind == 8#64)) then true else (x1.kind == 10#64)) = gg1; cases gg1) <;> rfl) (by intro hb; obtain ⟨hl1, hr1⟩ := Bool.and_eq_true_iff.1 hb; have hb97_1 := hid (show ((bif (bif (x1.kind == 4#64) then true else (x1.kind == 8#64)) then true else (x1.kind == 10#64))) = true from hr1); have hb97_0 := hid (show (((bif (bif (x1.kind == 4#64) then true else (x1.kind == 8#64)) then true else (x1.kind == 10#64)) != (x1.buckets != 0#64))) = false from nnb hl1); intro x hx; (try simp only [hb]); (try simp only [hl1]); (try simp only [hr1]); (try simp only [cond_true]); have f0 := hx.load 0 3 rfl rfl; go_simp; (first | done | exact rfl)) ?_
      simp only [List.set_cons_succ, List.set_cons_zero]
      refine take_if_call (i := 14) (f := 33) (args := #[.int .i64 (ti (x1.buckets))]) (v := .bool (ref_power x1.buckets)) ((!((bif (bif (x1.kind == 4#64) then true else (x1.kind == 8#64)) then true else (x1.kind == 10#64)) != (x1.buckets != 0#64))) && (bif (bif (x1.kind == 4#64) then true else (x1.kind == 8#64)) then true else (x1.kind == 10#64))) (st_ups _ _) rfl rfl (by kernel_rfl) (fun _ _ _ _ h => h) (by generalize ((bif (bif (x1.kind == 4#64) then true else (x1.kind == 8#64)) then true else (x1.kind == 10#64)) != (x1.buckets != 0#64)) = gg0; cases gg0 <;> (generalize (bif (bif (x1.kind == 4#64) then true else (x1.kind == 8#64)) then true else (x1.kind == 10#64)) = gg1; cases gg1) <;> rfl) (by intro hb; obtain ⟨hl1, hr1⟩ := Bool.and_eq_true_iff.1 hb; have hb98_1 := hid (show ((bif (bif (x1.kind == 4#64) then true else (x1.kind == 8#64)) then true else (x1.kind == 10#64))) = true from hr1); have hb98_0 := hid (show (((bif (bif (x1.kind == 4#64) then true else (x1.kind == 8#64)) then true else (x1.kind == 10#64)) != (x1.buckets != 0#64))) = false from nnb hl1); intro x hx; (try simp only [hb]); (try simp only [hl1]); (try simp only [hr1]); (try simp only [cond_true]); kernel_rfl) (by intro hb; obtain ⟨hl1, hr1⟩ := Bool.and_eq_true_iff.1 hb; have hb98_1 := hid (show ((bif (bif (x1.kind == 4#64) then true else (x1.kind == 8#64)) then true else (x1.kind == 10#64))) = true from hr1); have hb98_0 := hid (show (((bif (bif (x1.kind == 4#64) then true else (x1.kind == 8#64)) then true else (x1.kind == 10#64)) != (x1.buckets != 0#64))) = false from nnb hl1); intro x hx; exact ref_power_any x1.buckets _) ?_
      simp only [List.set_cons_succ, List.set_cons_zero]
      refine take_if (i := 15) (v := .bool ((!(ref_power x1.buckets)))) ((!((bif (bif (x1.kind == 4#64) then true else (x1.kind == 8#64)) then true else (x1.kind == 10#64)) != (x1.buckets != 0#64))) && (bif (bif (x1.kind == 4#64) then true else (x1.kind == 8#64)) then true else (x1.kind == 10#64))) (st_ups _ _) rfl rfl (by kernel_rfl) (fun _ _ _ _ h => h) (by generalize ((bif (bif (x1.kind == 4#64) then true else (x1.kind == 8#64)) then true else (x1.kind == 10#64)) != (x1.buckets != 0#64)) = gg0; cases gg0 <;> (generalize (bif (bif (x1.kind == 4#64) then true else (x1.kind == 8#64)) then true else (x1.kind == 10#64)) = gg1; cases gg1) <;> rfl) (by intro hb; obtain ⟨hl1, hr1⟩ := Bool.and_eq_true_iff.1 hb; have hb99_1 := hid (show ((bif (bif (x1.kind == 4#64) then true else (x1.kind == 8#64)) then true else (x1.kind == 10#64))) = true from hr1); have hb99_0 := hid (show (((bif (bif (x1.kind == 4#64) then true else (x1.kind == 8#64)) then true else (x1.kind == 10#64)) != (x1.buckets != 0#64))) = false from nnb hl1); intro x hx; (try simp only [hb]); (try simp only [hl1]); (try simp only [hr1]); (try simp only [cond_true]); go_simp; (first | done | exact rfl)) ?_
      simp only [List.set_cons_succ, List.set_cons_zero]
      refine take_if (i := 16) (v := .bool ((bif (bif (bif (x1.kind == 4#64) then true else (x1.kind == 8#64)) then true else (x1.kind == 10#64)) then (!(ref_power x1.buckets)) else false))) (!((bif (bif (x1.kind == 4#64) then true else (x1.kind == 8#64)) then true else (x1.kind == 10#64)) != (x1.buckets != 0#64))) (st_ups _ _) rfl rfl (by kernel_rfl) (fun _ _ _ _ h => h) (by generalize ((bif (bif (x1.kind == 4#64) then true else (x1.kind == 8#64)) then true else (x1.kind == 10#64)) != (x1.buckets != 0#64)) = gg0; cases gg0 <;> rfl) (by intro hb; have hb100 := hid (show (((bif (bif (x1.kind == 4#64) then true else (x1.kind == 8#64)) then true else (x1.kind == 10#64)) != (x1.buckets != 0#64))) = false from nnb hb); intro x hx; (try simp only [hb]); (try simp only [cond_true]); (cases hq : ((bif (bif (x1.kind == 4#64) then true else (x1.kind == 8#64)) then true else (x1.kind == 10#64))) <;> first | rfl | (simp only [hq]; rfl) | simp [hq])) ?_
      simp only [List.set_cons_succ, List.set_cons_zero]
      refine take_val (i := 17) (v := .bool ((bif ((bif (bif (x1.kind == 4#64) then true else (x1.kind == 8#64)) then true else (x1.kind == 10#64)) != (x1.buckets != 0#64)) then true else (bif (bif (bif (x1.kind == 4#64) then true else (x1.kind == 8#64)) then true else (x1.kind == 10#64)) then (!(ref_power x1.buckets)) else false)))) (st_ups _ _) rfl rfl (by kernel_rfl) (fun _ _ _ h => h) (by rfl) (by intro x hx; (cases hq : (((bif (bif (x1.kind == 4#64) then true else (x1.kind == 8#64)) then true else (x1.kind == 10#64)) != (x1.buckets != 0#64))) <;> first | rfl | (simp only [hq]; rfl) | simp [hq])) ?_
      simp only [List.set_cons_succ, List.set_cons_zero]
      refine take_done (by kernel_rfl) ?_ _
      intro W4 hx
      replace HS := hid hx
      clear hx
      cases h3 : ((bif ((bif (bif (x1.kind == 4#64) then true else (x1.kind == 8#64)) then true else (x1.kind == 10#64)) != (x1.buckets != 0#64)) then true else (bif (bif (bif (x1.kind == 4#64) then true else (x1.kind == 8#64)) then true else (x1.kind == 10#64)) then (!(ref_power x1.buckets)) else false)))
      · replace h3 := hid h3
        -- region 8
        go_upto_region 8 with fail
        refine lin_begin (St w [⟨w.heap.size, [some (.int .i64 (ti (x1.kind))), some (.int .i64 (ti (x1.entries))), some (.int .i64 (ti (x1.words))), some (.int .i64 (ti (x1.buckets))), some (.int .i64 (ti (x1.inner)))], 30⟩]) rfl HS.out ?_
        refine lin_val (i := 0) (v := .pointer (some ⟨w.heap.size, 0, none⟩)) rfl rfl (by rfl) (by intro x hx; go_simp; (first | done | exact rfl)) ?_
        simp only [List.set_cons_succ, List.set_cons_zero]
        refine lin_val (i := 1) (v := .int .i64 (ti (x1.kind))) rfl rfl (by rfl) (by intro x hx; have f0 := hx.load 0 0 rfl rfl; go_simp; (first | done | exact rfl)) ?_
        simp only [List.set_cons_succ, List.set_cons_zero]
        refine lin_call (i := 2) (f := 26) (args := #[.int .i64 (ti (x1.kind))]) (v := .bool ((bif (x1.kind == 9#64) then true else (x1.kind == 10#64)))) (st_ups _ _) rfl rfl (by rfl) (fun x hx => by kernel_rfl) (by intro x hx; exact ref_Nested_any x1.kind _) ?_
        simp only [List.set_cons_succ, List.set_cons_zero]
        refine lin_val (i := 3) (v := .bool ((!(bif (x1.kind == 9#64) then true else (x1.kind == 10#64))))) rfl rfl (by rfl) (by intro x hx; go_simp; (first | done | exact rfl)) ?_
        simp only [List.set_cons_succ, List.set_cons_zero]
        refine lin_done ?_
        intro W5 hx
        replace HS := hid hx
        clear hx
        cases h4 : ((!(bif (x1.kind == 9#64) then true else (x1.kind == 10#64))))
        · replace h4 := hid h4
          -- region 12
          go_upto_region 12 with fail
          refine lin_begin (St w [⟨w.heap.size, [some (.int .i64 (ti (x1.kind))), some (.int .i64 (ti (x1.entries))), some (.int .i64 (ti (x1.words))), some (.int .i64 (ti (x1.buckets))), some (.int .i64 (ti (x1.inner)))], 30⟩]) rfl HS.out ?_
          refine lin_val (i := 0) (v := .pointer (some ⟨w.heap.size, 4, none⟩)) rfl rfl (by rfl) (by intro x hx; go_simp; (first | done | exact rfl)) ?_
          simp only [List.set_cons_succ, List.set_cons_zero]
          refine lin_val (i := 1) (v := .int .i64 (ti (x1.inner))) rfl rfl (by rfl) (by intro x hx; have f0 := hx.load 0 4 rfl rfl; go_simp; (first | done | exact rfl)) ?_
          simp only [List.set_cons_succ, List.set_cons_zero]
          refine lin_val (i := 2) (v := .bool (ltI x1.inner 1#64)) rfl rfl (by rfl) (by intro x hx; go_simp; (first | done | exact ltIT x1.inner 1#64 | exact congrArg _ (ltIT x1.inner 1#64) | (rw [ltIT x1.inner 1#64]; done) | (rw [ltIT x1.inner 1#64]; rfl))) ?_
          simp only [List.set_cons_succ, List.set_cons_zero]
          refine lin_val (i := 3) (v := .bool (ltI x1.inner 1#64)) rfl rfl (by rfl) (by intro x hx; go_simp; (first | done | exact rfl)) ?_
          simp only [List.set_cons_succ, List.set_cons_zero]
          refine lin_if (i := 4) (v := .pointer (some ⟨w.heap.size, 4, none⟩)) (!(ltI x1.inner 1#64)) rfl rfl (by generalize (ltI x1.inner 1#64) = gg0; cases gg0 <;> rfl) (by intro hb; have hb101 := hid (show (ltI x1.inner 1#64) = false from nnb hb); intro x hx; (try simp only [hb]); (try simp only [cond_true]); go_simp; (first | done | exact rfl)) ?_
          simp only [List.set_cons_succ, List.set_cons_zero]
          refine lin_if (i := 5) (v := .int .i64 (ti (x1.inner))) (!(ltI x1.inner 1#64)) rfl rfl (by generalize (ltI x1.inner 1#64) = gg0; cases gg0 <;> rfl) (by intro hb; have hb102 := hid (show (ltI x1.inner 1#64) = false from nnb hb); intro x hx; (try simp only [hb]); (try simp only [cond_true]); have f0 := hx.load 0 4 rfl rfl; go_simp; (first | done | exact rfl)) ?_
          simp only [List.set_cons_succ, List.set_cons_zero]
          refine lin_if (i := 6) (v := .slice a len cap) (!(ltI x1.inner 1#64)) rfl rfl (by generalize (ltI x1.inner 1#64) = gg0; cases gg0 <;> rfl) (by intro hb; have hb103 := hid (show (ltI x1.inner 1#64) = false from nnb hb); intro x hx; (try simp only [hb]); (try simp only [cond_true]); go_simp; (first | done | exact rfl)) ?_
          simp only [List.set_cons_succ, List.set_cons_zero]
          refine lin_if (i := 7) (v := .int .i64 (ti (lenV len))) (!(ltI x1.inner 1#64)) rfl rfl (by generalize (ltI x1.inner 1#64) = gg0; cases gg0 <;> rfl) (by intro hb; have hb104 := hid (show (ltI x1.inner 1#64) = false from nnb hb); intro x hx; (try simp only [hb]); (try simp only [cond_true]); go_simp; (first | done | exact congrArg (fun v => Result.ok (Next.value (Value.int .i64 v)) x) (lenT HLN.out).symm | (rw [lenT HLN.out]; done) | (rw [lenT HLN.out]; rfl))) ?_
          simp only [List.set_cons_succ, List.set_cons_zero]
          refine lin_if (i := 8) (v := .bool (gtI x1.inner (lenV len))) (!(ltI x1.inner 1#64)) rfl rfl (by generalize (ltI x1.inner 1#64) = gg0; cases gg0 <;> rfl) (by intro hb; have hb105 := hid (show (ltI x1.inner 1#64) = false from nnb hb); intro x hx; (try simp only [hb]); (try simp only [cond_true]); go_simp; (first | done | exact gtIT x1.inner (lenV len) | exact congrArg _ (gtIT x1.inner (lenV len)) | (rw [gtIT x1.inner (lenV len)]; done) | (rw [gtIT x1.inner (lenV len)]; rfl))) ?_
          simp only [List.set_cons_succ, List.set_cons_zero]
          refine lin_val (i := 9) (v := .bool ((bif ltI x1.inner 1#64 then true else gtI x1.inner (lenV len)))) rfl rfl (by rfl) (by intro x hx; (cases hq : (ltI x1.inner 1#64) <;> first | rfl | (simp only [hq]; rfl) | simp [hq])) ?_
          simp only [List.set_cons_succ, List.set_cons_zero]
          refine lin_done ?_
          intro W6 hx
          replace HS := hid hx
          clear hx
          cases h5 : ((bif ltI x1.inner 1#64 then true else gtI x1.inner (lenV len)))
          · replace h5 := hid h5
            have c1 := HS.out.load 0 4 rfl rfl
            have HIN := hid (ix_out HLN.out h5.out)
            have HEND := hid (fun v (e : cond (bif ((L.getD (x1.inner.toNat - 1) dc0).kind == 9#64) then true else ((L.getD (x1.inner.toNat - 1) dc0).kind == 10#64)) 14#64 0#64 = v) => show ref_one x1 L len = v from by unfold ref_one; rw [cond_f h1.out, cond_f h2.out, cond_f h3.out, cond_f h4.out, cond_f h5.out]; exact e)
            obtain ⟨k, hk0, hk1, hk2⟩ := HIN.out
            rw [hk1] at c1
            rw [hk0] at HEND
            obtain ⟨b, off, rfl, hb, hr⟩ := HA.out.2 (by omega)
            obtain ⟨d0, _, _, _, _⟩ := hr.below HS.out.below hb k _ (map_get L k (by have := HA.out.1; simp at this; omega))
            generalize L.getD k dc0 = q at d0 HEND
            unfold Dc.di at d0
            simp only at d0
            have hln := HLN.out
            have h9 : ((k : Int) + 1 - 1) = (k : Int) := by omega
            clear hr hk0 hk1
            go_wp2_with fail
            refine (ref_Nested_any q.kind _).mono ?_
            rintro e w2 ⟨rfl, hb2⟩
            have HB2 := hid (HS.out.below.trans (hb2.mono HS.out.below.size))
            clear hb2
            generalize (bif (q.kind == 9#64) then true else (q.kind == 10#64)) = r at HEND ⊢
            cases r
            · go_wp2
              go_ret
              exact ⟨by rw [HEND.out _ rfl]; rfl, HB2.out⟩
            · go_wp2
              go_ret
              exact ⟨by rw [HEND.out _ rfl]; rfl, HB2.out⟩
          · replace h5 := hid h5
            -- region 13
            go_upto_region 13 with fail
            refine lin_begin (St w [⟨w.heap.size, [some (.int .i64 (ti (x1.kind))), some (.int .i64 (ti (x1.entries))), some (.int .i64 (ti (x1.words))), some (.int .i64 (ti (x1.buckets))), some (.int .i64 (ti (x1.inner)))], 30⟩]) rfl HS.out ?_
            refine lin_val (i := 0) (v := .int .i64 1) rfl rfl (by rfl) (by intro x hx; go_simp; (first | done | exact rfl)) ?_
            simp only [List.set_cons_succ, List.set_cons_zero]
            refine lin_done ?_
            intro W7 hx
            replace HS := hid hx
            clear hx
            go_wp2
            have HF : ref_one x1 L len = 1#64 := by
              unfold ref_one
              rw [cond_f h1.out, cond_f h2.out, cond_f h3.out, cond_f h4.out, cond_t h5.out]
            exact bodyPost_ret (v := .int .i64 1) (by simp [results, Tryd.results24, go_sem]) rfl ⟨(by first | (rw [HF]; done) | (rw [HF]; rfl)), HS.out.below⟩
        · replace h4 := hid h4
          -- region 9
          go_upto_region 9 with fail
          refine lin_begin (St w [⟨w.heap.size, [some (.int .i64 (ti (x1.kind))), some (.int .i64 (ti (x1.entries))), some (.int .i64 (ti (x1.words))), some (.int .i64 (ti (x1.buckets))), some (.int .i64 (ti (x1.inner)))], 30⟩]) rfl HS.out ?_
          refine lin_val (i := 0) (v := .pointer (some ⟨w.heap.size, 4, none⟩)) rfl rfl (by rfl) (by intro x hx; go_simp; (first | done | exact rfl)) ?_
          simp only [List.set_cons_succ, List.set_cons_zero]
          refine lin_val (i := 1) (v := .int .i64 (ti (x1.inner))) rfl rfl (by rfl) (by intro x hx; have f0 := hx.load 0 4 rfl rfl; go_simp; (first | done | exact rfl)) ?_
          simp only [List.set_cons_succ, List.set_cons_zero]
          refine lin_val (i := 2) (v := .bool ((x1.inner != 0#64))) rfl rfl (by rfl) (by intro x hx; go_simp; (first | done | exact neIT x1.inner 0#64 | exact congrArg _ (neIT x1.inner 0#64) | (rw [neIT x1.inner 0#64]; done) | (rw [neIT x1.inner 0#64]; rfl))) ?_
          simp only [List.set_cons_succ, List.set_cons_zero]
          refine lin_done ?_
          intro W6 hx
          replace HS := hid hx
          clear hx
          cases h5 : ((x1.inner != 0#64))
          · replace h5 := hid h5
            -- region 11
            go_upto_region 11 with fail
            refine lin_begin (St w [⟨w.heap.size, [some (.int .i64 (ti (x1.kind))), some (.int .i64 (ti (x1.entries))), some (.int .i64 (ti (x1.words))), some (.int .i64 (ti (x1.buckets))), some (.int .i64 (ti (x1.inner)))], 30⟩]) rfl HS.out ?_
            refine lin_val (i := 0) (v := .int .i64 0) rfl rfl (by rfl) (by intro x hx; go_simp; (first | done | exact rfl)) ?_
            simp only [List.set_cons_succ, List.set_cons_zero]
            refine lin_done ?_
            intro W7 hx
            replace HS := hid hx
            clear hx
            go_wp2
            have HF : ref_one x1 L len = 0#64 := by
              unfold ref_one
              rw [cond_f h1.out, cond_f h2.out, cond_f h3.out, cond_t h4.out, cond_f h5.out]
            exact bodyPost_ret (v := .int .i64 0) (by simp [results, Tryd.results24, go_sem]) rfl ⟨(by first | (rw [HF]; done) | (rw [HF]; rfl)), HS.out.below⟩
          · replace h5 := hid h5
            -- region 10
            go_upto_region 10 with fail
            refine lin_begin (St w [⟨w.heap.size, [some (.int .i64 (ti (x1.kind))), some (.int .i64 (ti (x1.entries))), some (.int .i64 (ti (x1.words))), some (.int .i64 (ti (x1.buckets))), some (.int .i64 (ti (x1.inner)))], 30⟩]) rfl HS.out ?_
            refine lin_val (i := 0) (v := .int .i64 1) rfl rfl (by rfl) (by intro x hx; go_simp; (first | done | exact rfl)) ?_
            simp only [List.set_cons_succ, List.set_cons_zero]
            refine lin_done ?_
            intro W7 hx
            replace HS := hid hx
            clear hx
            go_wp2
            have HF : ref_one x1 L len = 1#64 := by
              unfold ref_one
              rw [cond_f h1.out, cond_f h2.out, cond_f h3.out, cond_t h4.out, cond_t h5.out]
            exact bodyPost_ret (v := .int .i64 1) (by simp [results, Tryd.results24, go_sem]) rfl ⟨(by first | (rw [HF]; done) | (rw [HF]; rfl)), HS.out.below⟩
      · replace h3 := hid h3
        -- region 7
        go_upto_region 7 with fail
        refine lin_begin (St w [⟨w.heap.size, [some (.int .i64 (ti (x1.kind))), some (.int .i64 (ti (x1.entries))), some (.int .i64 (ti (x1.words))), some (.int .i64 (ti (x1.buckets))), some (.int .i64 (ti (x1.inner)))], 30⟩]) rfl HS.out ?_
        refine lin_val (i := 0) (v := .int .i64 1) rfl rfl (by rfl) (by intro x hx; go_simp; (first | done | exact rfl)) ?_
        simp only [List.set_cons_succ, List.set_cons_zero]
        refine lin_done ?_
        intro W5 hx
        replace HS := hid hx
        clear hx
        go_wp2
        have HF : ref_one x1 L len = 1#64 := by
          unfold ref_one
          rw [cond_f h1.out, cond_f h2.out, cond_t h3.out]
        exact bodyPost_ret (v := .int .i64 1) (by simp [results, Tryd.results24, go_sem]) rfl ⟨(by first | (rw [HF]; done) | (rw [HF]; rfl)), HS.out.below⟩
    · replace h2 := hid h2
      -- region 5
      go_upto_region 5 with fail
      refine lin_begin (St w [⟨w.heap.size, [some (.int .i64 (ti (x1.kind))), some (.int .i64 (ti (x1.entries))), some (.int .i64 (ti (x1.words))), some (.int .i64 (ti (x1.buckets))), some (.int .i64 (ti (x1.inner)))], 30⟩]) rfl HS.out ?_
      refine lin_val (i := 0) (v := .int .i64 1) rfl rfl (by rfl) (by intro x hx; go_simp; (first | done | exact rfl)) ?_
      simp only [List.set_cons_succ, List.set_cons_zero]
      refine lin_done ?_
      intro W4 hx
      replace HS := hid hx
      clear hx
      go_wp2
      have HF : ref_one x1 L len = 1#64 := by
        unfold ref_one
        rw [cond_f h1.out, cond_t h2.out]
      exact bodyPost_ret (v := .int .i64 1) (by simp [results, Tryd.results24, go_sem]) rfl ⟨(by first | (rw [HF]; done) | (rw [HF]; rfl)), HS.out.below⟩
  · replace h1 := hid h1
    -- region 3
    go_upto_region 3 with fail
    refine lin_begin (St w [⟨w.heap.size, [some (.int .i64 (ti (x1.kind))), some (.int .i64 (ti (x1.entries))), some (.int .i64 (ti (x1.words))), some (.int .i64 (ti (x1.buckets))), some (.int .i64 (ti (x1.inner)))], 30⟩]) rfl HS.out ?_
    refine lin_val (i := 0) (v := .int .i64 4) rfl rfl (by rfl) (by intro x hx; go_simp; (first | done | exact rfl)) ?_
    simp only [List.set_cons_succ, List.set_cons_zero]
    refine lin_done ?_
    intro W3 hx
    replace HS := hid hx
    clear hx
    -- region 4
    go_upto_region 4 with fail
    refine lin_begin (St w [⟨w.heap.size, [some (.int .i64 (ti (x1.kind))), some (.int .i64 (ti (x1.entries))), some (.int .i64 (ti (x1.words))), some (.int .i64 (ti (x1.buckets))), some (.int .i64 (ti (x1.inner)))], 30⟩]) rfl HS.out ?_
    refine lin_val (i := 0) (v := .pointer (some ⟨w.heap.size, 0, none⟩)) rfl rfl (by rfl) (by intro x hx; go_simp; (first | done | exact rfl)) ?_
    simp only [List.set_cons_succ, List.set_cons_zero]
    refine lin_val (i := 1) (v := .int .i64 (ti (x1.kind))) rfl rfl (by rfl) (by intro x hx; have f0 := hx.load 0 0 rfl rfl; go_simp; (first | done | exact rfl)) ?_
    simp only [List.set_cons_succ, List.set_cons_zero]
    refine lin_val (i := 2) (v := .bool (ltI x1.kind 1#64)) rfl rfl (by rfl) (by intro x hx; go_simp; (first | done | exact ltIT x1.kind 1#64 | exact congrArg _ (ltIT x1.kind 1#64) | (rw [ltIT x1.kind 1#64]; done) | (rw [ltIT x1.kind 1#64]; rfl))) ?_
    simp only [List.set_cons_succ, List.set_cons_zero]
    refine lin_val (i := 3) (v := .bool (ltI x1.kind 1#64)) rfl rfl (by rfl) (by intro x hx; go_simp; (first | done | exact rfl)) ?_
    simp only [List.set_cons_succ, List.set_cons_zero]
    refine lin_if (i := 4) (v := .pointer (some ⟨w.heap.size, 0, none⟩)) (!(ltI x1.kind 1#64)) rfl rfl (by generalize (ltI x1.kind 1#64) = gg0; cases gg0 <;> rfl) (by intro hb; have hb106 := hid (show (ltI x1.kind 1#64) = false from nnb hb); intro x hx; (try simp only [hb]); (try simp only [cond_true]); go_simp; (first | done | exact rfl)) ?_
    simp only [List.set_cons_succ, List.set_cons_zero]
    refine lin_if (i := 5) (v := .int .i64 (ti (x1.kind))) (!(ltI x1.kind 1#64)) rfl rfl (by generalize (ltI x1.kind 1#64) = gg0; cases gg0 <;> rfl) (by intro hb; have hb107 := hid (show (ltI x1.kind 1#64) = false from nnb hb); intro x hx; (try simp only [hb]); (try simp only [cond_true]); have f0 := hx.load 0 0 rfl rfl; go_simp; (first | done | exact rfl)) ?_
    simp only [List.set_cons_succ, List.set_cons_zero]
    refine lin_if (i := 6) (v := .bool (gtI x1.kind 10#64)) (!(ltI x1.kind 1#64)) rfl rfl (by generalize (ltI x1.kind 1#64) = gg0; cases gg0 <;> rfl) (by intro hb; have hb108 := hid (show (ltI x1.kind 1#64) = false from nnb hb); intro x hx; (try simp only [hb]); (try simp only [cond_true]); go_simp; (first | done | exact gtIT x1.kind 10#64 | exact congrArg _ (gtIT x1.kind 10#64) | (rw [gtIT x1.kind 10#64]; done) | (rw [gtIT x1.kind 10#64]; rfl))) ?_
    simp only [List.set_cons_succ, List.set_cons_zero]
    refine lin_val (i := 7) (v := .bool ((bif ltI x1.kind 1#64 then true else gtI x1.kind 10#64))) rfl rfl (by rfl) (by intro x hx; (cases hq : (ltI x1.kind 1#64) <;> first | rfl | (simp only [hq]; rfl) | simp [hq])) ?_
    simp only [List.set_cons_succ, List.set_cons_zero]
    refine lin_val (i := 8) (v := .bool ((bif ltI x1.kind 1#64 then true else gtI x1.kind 10#64))) rfl rfl (by rfl) (by intro x hx; go_simp; (first | done | exact rfl)) ?_
    simp only [List.set_cons_succ, List.set_cons_zero]
    refine lin_if (i := 9) (v := .pointer (some ⟨w.heap.size, 1, none⟩)) (!(bif ltI x1.kind 1#64 then true else gtI x1.kind 10#64)) rfl rfl (by generalize (bif ltI x1.kind 1#64 then true else gtI x1.kind 10#64) = gg0; cases gg0 <;> rfl) (by intro hb; have hb109 := hid (show ((bif ltI x1.kind 1#64 then true else gtI x1.kind 10#64)) = false from nnb hb); intro x hx; (try simp only [hb]); (try simp only [cond_true]); go_simp; (first | done | exact rfl)) ?_
    simp only [List.set_cons_succ, List.set_cons_zero]
    refine lin_if (i := 10) (v := .int .i64 (ti (x1.entries))) (!(bif ltI x1.kind 1#64 then true else gtI x1.kind 10#64)) rfl rfl (by generalize (bif ltI x1.kind 1#64 then true else gtI x1.kind 10#64) = gg0; cases gg0 <;> rfl) (by intro hb; have hb110 := hid (show ((bif ltI x1.kind 1#64 then true else gtI x1.kind 10#64)) = false from nnb hb); intro x hx; (try simp only [hb]); (try simp only [cond_true]); have f0 := hx.load 0 1 rfl rfl; go_simp; (first | done | exact rfl)) ?_
    simp only [List.set_cons_succ, List.set_cons_zero]
    refine lin_if (i := 11) (v := .bool (ltI x1.entries 1#64)) (!(bif ltI x1.kind 1#64 then true else gtI x1.kind 10#64)) rfl rfl (by generalize (bif ltI x1.kind 1#64 then true else gtI x1.kind 10#64) = gg0; cases gg0 <;> rfl) (by intro hb; have hb111 := hid (show ((bif ltI x1.kind 1#64 then true else gtI x1.kind 10#64)) = false from nnb hb); intro x hx; (try simp only [hb]); (try simp only [cond_true]); go_simp; (first | done | exact ltIT x1.entries 1#64 | exact congrArg _ (ltIT x1.entries 1#64) | (rw [ltIT x1.entries 1#64]; done) | (rw [ltIT x1.entries 1#64]; rfl))) ?_
    simp only [List.set_cons_succ, List.set_cons_zero]
    refine lin_val (i := 12) (v := .bool ((bif (bif ltI x1.kind 1#64 then true else gtI x1.kind 10#64) then true else ltI x1.entries 1#64))) rfl rfl (by rfl) (by intro x hx; (cases hq : ((bif ltI x1.kind 1#64 then true else gtI x1.kind 10#64)) <;> first | rfl | (simp only [hq]; rfl) | simp [hq])) ?_
    simp only [List.set_cons_succ, List.set_cons_zero]
    refine lin_val (i := 13) (v := .bool ((bif (bif ltI x1.kind 1#64 then true else gtI x1.kind 10#64) then true else ltI x1.entries 1#64))) rfl rfl (by rfl) (by intro x hx; go_simp; (first | done | exact rfl)) ?_
    simp only [List.set_cons_succ, List.set_cons_zero]
    refine lin_if (i := 14) (v := .pointer (some ⟨w.heap.size, 1, none⟩)) (!(bif (bif ltI x1.kind 1#64 then true else gtI x1.kind 10#64) then true else ltI x1.entries 1#64)) rfl rfl (by generalize (bif (bif ltI x1.kind 1#64 then true else gtI x1.kind 10#64) then true else ltI x1.entries 1#64) = gg0; cases gg0 <;> rfl) (by intro hb; have hb112 := hid (show ((bif (bif ltI x1.kind 1#64 then true else gtI x1.kind 10#64) then true else ltI x1.entries 1#64)) = false from nnb hb); intro x hx; (try simp only [hb]); (try simp only [cond_true]); go_simp; (first | done | exact rfl)) ?_
    simp only [List.set_cons_succ, List.set_cons_zero]
    refine lin_if (i := 15) (v := .int .i64 (ti (x1.entries))) (!(bif (bif ltI x1.kind 1#64 then true else gtI x1.kind 10#64) then true else ltI x1.entries 1#64)) rfl rfl (by generalize (bif (bif ltI x1.kind 1#64 then true else gtI x1.kind 10#64) then true else ltI x1.entries 1#64) = gg0; cases gg0 <;> rfl) (by intro hb; have hb113 := hid (show ((bif (bif ltI x1.kind 1#64 then true else gtI x1.kind 10#64) then true else ltI x1.entries 1#64)) = false from nnb hb); intro x hx; (try simp only [hb]); (try simp only [cond_true]); have f0 := hx.load 0 1 rfl rfl; go_simp; (first | done | exact rfl)) ?_
    simp only [List.set_cons_succ, List.set_cons_zero]
    refine lin_if (i := 16) (v := .bool (gtI x1.entries 64#64)) (!(bif (bif ltI x1.kind 1#64 then true else gtI x1.kind 10#64) then true else ltI x1.entries 1#64)) rfl rfl (by generalize (bif (bif ltI x1.kind 1#64 then true else gtI x1.kind 10#64) then true else ltI x1.entries 1#64) = gg0; cases gg0 <;> rfl) (by intro hb; have hb114 := hid (show ((bif (bif ltI x1.kind 1#64 then true else gtI x1.kind 10#64) then true else ltI x1.entries 1#64)) = false from nnb hb); intro x hx; (try simp only [hb]); (try simp only [cond_true]); go_simp; (first | done | exact gtIT x1.entries 64#64 | exact congrArg _ (gtIT x1.entries 64#64) | (rw [gtIT x1.entries 64#64]; done) | (rw [gtIT x1.entries 64#64]; rfl))) ?_
    simp only [List.set_cons_succ, List.set_cons_zero]
    refine lin_val (i := 17) (v := .bool ((bif (bif (bif ltI x1.kind 1#64 then true else gtI x1.kind 10#64) then true else ltI x1.entries 1#64) then true else gtI x1.entries 64#64))) rfl rfl (by rfl) (by intro x hx; (cases hq : ((bif (bif ltI x1.kind 1#64 then true else gtI x1.kind 10#64) then true else ltI x1.entries 1#64)) <;> first | rfl | (simp only [hq]; rfl) | simp [hq])) ?_
    simp only [List.set_cons_succ, List.set_cons_zero]
    refine lin_val (i := 18) (v := .bool ((bif (bif (bif ltI x1.kind 1#64 then true else gtI x1.kind 10#64) then true else ltI x1.entries 1#64) then true else gtI x1.entries 64#64))) rfl rfl (by rfl) (by intro x hx; go_simp; (first | done | exact rfl)) ?_
    simp only [List.set_cons_succ, List.set_cons_zero]
    refine lin_if (i := 19) (v := .pointer (some ⟨w.heap.size, 2, none⟩)) (!(bif (bif (bif ltI x1.kind 1#64 then true else gtI x1.kind 10#64) then true else ltI x1.entries 1#64) then true else gtI x1.entries 64#64)) rfl rfl (by generalize (bif (bif (bif ltI x1.kind 1#64 then true else gtI x1.kind 10#64) then true else ltI x1.entries 1#64) then true else gtI x1.entries 64#64) = gg0; cases gg0 <;> rfl) (by intro hb; have hb115 := hid (show ((bif (bif (bif ltI x1.kind 1#64 then true else gtI x1.kind 10#64) then true else ltI x1.entries 1#64) then true else gtI x1.entries 64#64)) = false from nnb hb); intro x hx; (try simp only [hb]); (try simp only [cond_true]); go_simp; (first | done | exact rfl)) ?_
    simp only [List.set_cons_succ, List.set_cons_zero]
    refine lin_if (i := 20) (v := .int .i64 (ti (x1.words))) (!(bif (bif (bif ltI x1.kind 1#64 then true else gtI x1.kind 10#64) then true else ltI x1.entries 1#64) then true else gtI x1.entries 64#64)) rfl rfl (by generalize (bif (bif (bif ltI x1.kind 1#64 then true else gtI x1.kind 10#64) then true else ltI x1.entries 1#64) then true else gtI x1.entries 64#64) = gg0; cases gg0 <;> rfl) (by intro hb; have hb116 := hid (show ((bif (bif (bif ltI x1.kind 1#64 then true else gtI x1.kind 10#64) then true else ltI x1.entries 1#64) then true else gtI x1.entries 64#64)) = false from nnb hb); intro x hx; (try simp only [hb]); (try simp only [cond_true]); have f0 := hx.load 0 2 rfl rfl; go_simp; (first | done | exact rfl)) ?_
    simp only [List.set_cons_succ, List.set_cons_zero]
    refine lin_if (i := 21) (v := .bool (ltI x1.words 1#64)) (!(bif (bif (bif ltI x1.kind 1#64 then true else gtI x1.kind 10#64) then true else ltI x1.entries 1#64) then true else gtI x1.entries 64#64)) rfl rfl (by generalize (bif (bif (bif ltI x1.kind 1#64 then true else gtI x1.kind 10#64) then true else ltI x1.entries 1#64) then true else gtI x1.entries 64#64) = gg0; cases gg0 <;> rfl) (by intro hb; have hb117 := hid (show ((bif (bif (bif ltI x1.kind 1#64 then true else gtI x1.kind 10#64) then true else ltI x1.entries 1#64) then true else gtI x1.entries 64#64)) = false from nnb hb); intro x hx; (try simp only [hb]); (try simp only [cond_true]); go_simp; (first | done | exact ltIT x1.words 1#64 | exact congrArg _ (ltIT x1.words 1#64) | (rw [ltIT x1.words 1#64]; done) | (rw [ltIT x1.words 1#64]; rfl))) ?_
    simp only [List.set_cons_succ, List.set_cons_zero]
    refine lin_val (i := 22) (v := .bool ((bif (bif (bif (bif ltI x1.kind 1#64 then true else gtI x1.kind 10#64) then true else ltI x1.entries 1#64) then true else gtI x1.entries 64#64) then true else ltI x1.words 1#64))) rfl rfl (by rfl) (by intro x hx; (cases hq : ((bif (bif (bif ltI x1.kind 1#64 then true else gtI x1.kind 10#64) then true else ltI x1.entries 1#64) then true else gtI x1.entries 64#64)) <;> first | rfl | (simp only [hq]; rfl) | simp [hq])) ?_
    simp only [List.set_cons_succ, List.set_cons_zero]
    refine lin_val (i := 23) (v := .bool ((bif (bif (bif (bif ltI x1.kind 1#64 then true else gtI x1.kind 10#64) then true else ltI x1.entries 1#64) then true else gtI x1.entries 64#64) then true else ltI x1.words 1#64))) rfl rfl (by rfl) (by intro x hx; go_simp; (first | done | exact rfl)) ?_
    simp only [List.set_cons_succ, List.set_cons_zero]
    refine lin_if (i := 24) (v := .pointer (some ⟨w.heap.size, 2, none⟩)) (!(bif (bif (bif (bif ltI x1.kind 1#64 then true else gtI x1.kind 10#64) then true else ltI x1.entries 1#64) then true else gtI x1.entries 64#64) then true else ltI x1.words 1#64)) rfl rfl (by generalize (bif (bif (bif (bif ltI x1.kind 1#64 then true else gtI x1.kind 10#64) then true else ltI x1.entries 1#64) then true else gtI x1.entries 64#64) then true else ltI x1.words 1#64) = gg0; cases gg0 <;> rfl) (by intro hb; have hb118 := hid (show ((bif (bif (bif (bif ltI x1.kind 1#64 then true else gtI x1.kind 10#64) then true else ltI x1.entries 1#64) then true else gtI x1.entries 64#64) then true else ltI x1.words 1#64)) = false from nnb hb); intro x hx; (try simp only [hb]); (try simp only [cond_true]); go_simp; (first | done | exact rfl)) ?_
    simp only [List.set_cons_succ, List.set_cons_zero]
    refine lin_if (i := 25) (v := .int .i64 (ti (x1.words))) (!(bif (bif (bif (bif ltI x1.kind 1#64 then true else gtI x1.kind 10#64) then true else ltI x1.entries 1#64) then true else gtI x1.entries 64#64) then true else ltI x1.words 1#64)) rfl rfl (by generalize (bif (bif (bif (bif ltI x1.kind 1#64 then true else gtI x1.kind 10#64) then true else ltI x1.entries 1#64) then true else gtI x1.entries 64#64) then true else ltI x1.words 1#64) = gg0; cases gg0 <;> rfl) (by intro hb; have hb119 := hid (show ((bif (bif (bif (bif ltI x1.kind 1#64 then true else gtI x1.kind 10#64) then true else ltI x1.entries 1#64) then true else gtI x1.entries 64#64) then true else ltI x1.words 1#64)) = false from nnb hb); intro x hx; (try simp only [hb]); (try simp only [cond_true]); have f0 := hx.load 0 2 rfl rfl; go_simp; (first | done | exact rfl)) ?_
    simp only [List.set_cons_succ, List.set_cons_zero]
    refine lin_if (i := 26) (v := .int .i64 4) (!(bif (bif (bif (bif ltI x1.kind 1#64 then true else gtI x1.kind 10#64) then true else ltI x1.entries 1#64) then true else gtI x1.entries 64#64) then true else ltI x1.words 1#64)) rfl rfl (by generalize (bif (bif (bif (bif ltI x1.kind 1#64 then true else gtI x1.kind 10#64) then true else ltI x1.entries 1#64) then true else gtI x1.entries 64#64) then true else ltI x1.words 1#64) = gg0; cases gg0 <;> rfl) (by intro hb; have hb120 := hid (show ((bif (bif (bif (bif ltI x1.kind 1#64 then true else gtI x1.kind 10#64) then true else ltI x1.entries 1#64) then true else gtI x1.entries 64#64) then true else ltI x1.words 1#64)) = false from nnb hb); intro x hx; (try simp only [hb]); (try simp only [cond_true]); go_simp; (first | done | exact rfl)) ?_
    simp only [List.set_cons_succ, List.set_cons_zero]
    refine lin_if (i := 27) (v := .bool (gtI x1.words 4#64)) (!(bif (bif (bif (bif ltI x1.kind 1#64 then true else gtI x1.kind 10#64) then true else ltI x1.entries 1#64) then true else gtI x1.entries 64#64) then true else ltI x1.words 1#64)) rfl rfl (by generalize (bif (bif (bif (bif ltI x1.kind 1#64 then true else gtI x1.kind 10#64) then true else ltI x1.entries 1#64) then true else gtI x1.entries 64#64) then true else ltI x1.words 1#64) = gg0; cases gg0 <;> rfl) (by intro hb; have hb121 := hid (show ((bif (bif (bif (bif ltI x1.kind 1#64 then true else gtI x1.kind 10#64) then true else ltI x1.entries 1#64) then true else gtI x1.entries 64#64) then true else ltI x1.words 1#64)) = false from nnb hb); intro x hx; (try simp only [hb]); (try simp only [cond_true]); go_simp; (first | done | exact gtIT x1.words 4#64 | exact congrArg _ (gtIT x1.words 4#64) | (rw [gtIT x1.words 4#64]; done) | (rw [gtIT x1.words 4#64]; rfl))) ?_
    simp only [List.set_cons_succ, List.set_cons_zero]
    refine lin_val (i := 28) (v := .bool ((bif (bif (bif (bif (bif ltI x1.kind 1#64 then true else gtI x1.kind 10#64) then true else ltI x1.entries 1#64) then true else gtI x1.entries 64#64) then true else ltI x1.words 1#64) then true else gtI x1.words 4#64))) rfl rfl (by rfl) (by intro x hx; (cases hq : ((bif (bif (bif (bif ltI x1.kind 1#64 then true else gtI x1.kind 10#64) then true else ltI x1.entries 1#64) then true else gtI x1.entries 64#64) then true else ltI x1.words 1#64)) <;> first | rfl | (simp only [hq]; rfl) | simp [hq])) ?_
    simp only [List.set_cons_succ, List.set_cons_zero]
    refine lin_done ?_
    intro W4 hx
    replace HS := hid hx
    clear hx
    cases h2 : ((bif (bif (bif (bif (bif ltI x1.kind 1#64 then true else gtI x1.kind 10#64) then true else ltI x1.entries 1#64) then true else gtI x1.entries 64#64) then true else ltI x1.words 1#64) then true else gtI x1.words 4#64))
    · replace h2 := hid h2
      -- region 6
      go_upto_region 6 with fail
      refine up_begin (St w [⟨w.heap.size, [some (.int .i64 (ti (x1.kind))), some (.int .i64 (ti (x1.entries))), some (.int .i64 (ti (x1.words))), some (.int .i64 (ti (x1.buckets))), some (.int .i64 (ti (x1.inner)))], 30⟩]) 18 rfl (by kernel_rfl) (HS.out.drew) ?_
      refine take_val (i := 0) (v := .pointer (some ⟨w.heap.size, 0, none⟩)) (st_ups _ _) rfl rfl (by kernel_rfl) (fun _ _ _ h => h) (by rfl) (by intro x hx; go_simp; (first | done | exact rfl)) ?_
      simp only [List.set_cons_succ, List.set_cons_zero]
      refine take_val (i := 1) (v := .int .i64 (ti (x1.kind))) (st_ups _ _) rfl rfl (by kernel_rfl) (fun _ _ _ h => h) (by rfl) (by intro x hx; have f0 := hx.load 0 0 rfl rfl; go_simp; (first | done | exact rfl)) ?_
      simp only [List.set_cons_succ, List.set_cons_zero]
      refine take_call (i := 2) (f := 32) (args := #[.int .i64 (ti (x1.kind))]) (v := .bool ((bif (bif (x1.kind == 4#64) then true else (x1.kind == 8#64)) then true else (x1.kind == 10#64)))) (st_ups _ _) rfl rfl (by kernel_rfl) (fun _ _ _ h => h) (by rfl) (fun x hx => by kernel_rfl) (by intro x hx; exact ref_bucketed_any x1.kind _) ?_
      simp only [List.set_cons_succ, List.set_cons_zero]
      refine take_val (i := 3) (v := .pointer (some ⟨w.heap.size, 3, none⟩)) (st_ups _ _) rfl rfl (by kernel_rfl) (fun _ _ _ h => h) (by rfl) (by intro x hx; go_simp; (first | done | exact rfl)) ?_
      simp only [List.set_cons_succ, List.set_cons_zero]
      refine take_val (i := 4) (v := .int .i64 (ti (x1.buckets))) (st_ups _ _) rfl rfl (by kernel_rfl) (fun _ _ _ h => h) (by rfl) (by intro x hx; have f0 := hx.load 0 3 rfl rfl; go_simp; (first | done | exact rfl)) ?_
      simp only [List.set_cons_succ, List.set_cons_zero]
      refine take_val (i := 5) (v := .bool ((x1.buckets != 0#64))) (st_ups _ _) rfl rfl (by kernel_rfl) (fun _ _ _ h => h) (by rfl) (by intro x hx; go_simp; (first | done | exact neIT x1.buckets 0#64 | exact congrArg _ (neIT x1.buckets 0#64) | (rw [neIT x1.buckets 0#64]; done) | (rw [neIT x1.buckets 0#64]; rfl))) ?_
      simp only [List.set_cons_succ, List.set_cons_zero]
      refine take_val (i := 6) (v := .bool (((bif (bif (x1.kind == 4#64) then true else (x1.kind == 8#64)) then true else (x1.kind == 10#64)) != (x1.buckets != 0#64)))) (st_ups _ _) rfl rfl (by kernel_rfl) (fun _ _ _ h => h) (by rfl) (by intro x hx; go_simp; (first | done | exact neB (bif (bif (x1.kind == 4#64) then true else (x1.kind == 8#64)) then true else (x1.kind == 10#64)) (x1.buckets != 0#64) | exact congrArg _ (neB (bif (bif (x1.kind == 4#64) then true else (x1.kind == 8#64)) then true else (x1.kind == 10#64)) (x1.buckets != 0#64)) | (rw [neB (bif (bif (x1.kind == 4#64) then true else (x1.kind == 8#64)) then true else (x1.kind == 10#64)) (x1.buckets != 0#64)]; done) | (rw [neB (bif (bif (x1.kind == 4#64) then true else (x1.kind == 8#64)) then true else (x1.kind == 10#64)) (x1.buckets != 0#64)]; rfl))) ?_
      simp only [List.set_cons_succ, List.set_cons_zero]
      refine take_val (i := 7) (v := .bool (((bif (bif (x1.kind == 4#64) then true else (x1.kind == 8#64)) then true else (x1.kind == 10#64)) != (x1.buckets != 0#64)))) (st_ups _ _) rfl rfl (by kernel_rfl) (fun _ _ _ h => h) (by rfl) (by intro x hx; go_simp; (first | done | exact rfl)) ?_
      simp only [List.set_cons_succ, List.set_cons_zero]
      refine take_if (i := 8) (v := .pointer (some ⟨w.heap.size, 0, none⟩)) (!((bif (bif (x1.kind == 4#64) then true else (x1.kind == 8#64)) then true else (x1.kind == 10#64)) != (x1.buckets != 0#64))) (st_ups _ _) rfl rfl (by kernel_rfl) (fun _ _ _ _ h => h) (by generalize ((bif (bif (x1.kind == 4#64) then true else (x1.kind == 8#64)) then true else (x1.kind == 10#64)) != (x1.buckets != 0#64)) = gg0; cases gg0 <;> rfl) (by intro hb; have hb122 := hid (show (((bif (bif (x1.kind == 4#64) then true else (x1.kind == 8#64)) then true else (x1.kind == 10#64)) != (x1.buckets != 0#64))) = false from nnb hb); intro x hx; (try simp only [hb]); (try simp only [cond_true]); go_simp; (first | done | exact rfl)) ?_
      simp only [List.set_cons_succ, List.set_cons_zero]
      refine take_if (i := 9) (v := .int .i64 (ti (x1.kind))) (!((bif (bif (x1.kind == 4#64) then true else (x1.kind == 8#64)) then true else (x1.kind == 10#64)) != (x1.buckets != 0#64))) (st_ups _ _) rfl rfl (by kernel_rfl) (fun _ _ _ _ h => h) (by generalize ((bif (bif (x1.kind == 4#64) then true else (x1.kind == 8#64)) then true else (x1.kind == 10#64)) != (x1.buckets != 0#64)) = gg0; cases gg0 <;> rfl) (by intro hb; have hb123 := hid (show (((bif (bif (x1.kind == 4#64) then true else (x1.kind == 8#64)) then true else (x1.kind == 10#64)) != (x1.buckets != 0#64))) = false from nnb hb); intro x hx; (try simp only [hb]); (try simp only [cond_true]); have f0 := hx.load 0 0 rfl rfl; go_simp; (first | done | exact rfl)) ?_
      simp only [List.set_cons_succ, List.set_cons_zero]
      refine take_if_call (i := 10) (f := 32) (args := #[.int .i64 (ti (x1.kind))]) (v := .bool ((bif (bif (x1.kind == 4#64) then true else (x1.kind == 8#64)) then true else (x1.kind == 10#64)))) (!((bif (bif (x1.kind == 4#64) then true else (x1.kind == 8#64)) then true else (x1.kind == 10#64)) != (x1.buckets != 0#64))) (st_ups _ _) rfl rfl (by kernel_rfl) (fun _ _ _ _ h => h) (by generalize ((bif (bif (x1.kind == 4#64) then true else (x1.kind == 8#64)) then true else (x1.kind == 10#64)) != (x1.buckets != 0#64)) = gg0; cases gg0 <;> rfl) (by intro hb; have hb124 := hid (show (((bif (bif (x1.kind == 4#64) then true else (x1.kind == 8#64)) then true else (x1.kind == 10#64)) != (x1.buckets != 0#64))) = false from nnb hb); intro x hx; (try simp only [hb]); (try simp only [cond_true]); kernel_rfl) (by intro hb; have hb124 := hid (show (((bif (bif (x1.kind == 4#64) then true else (x1.kind == 8#64)) then true else (x1.kind == 10#64)) != (x1.buckets != 0#64))) = false from nnb hb); intro x hx; exact ref_bucketed_any x1.kind _) ?_
      simp only [List.set_cons_succ, List.set_cons_zero]
      refine take_if (i := 11) (v := .bool ((bif (bif (x1.kind == 4#64) then true else (x1.kind == 8#64)) then true else (x1.kind == 10#64)))) (!((bif (bif (x1.kind == 4#64) then true else (x1.kind == 8#64)) then true else (x1.kind == 10#64)) != (x1.buckets != 0#64))) (st_ups _ _) rfl rfl (by kernel_rfl) (fun _ _ _ _ h => h) (by generalize ((bif (bif (x1.kind == 4#64) then true else (x1.kind == 8#64)) then true else (x1.kind == 10#64)) != (x1.buckets != 0#64)) = gg0; cases gg0 <;> rfl) (by intro hb; have hb125 := hid (show (((bif (bif (x1.kind == 4#64) then true else (x1.kind == 8#64)) then true else (x1.kind == 10#64)) != (x1.buckets != 0#64))) = false from nnb hb); intro x hx; (try simp only [hb]); (try simp only [cond_true]); go_simp; (first | done | exact rfl)) ?_
      simp only [List.set_cons_succ, List.set_cons_zero]
      refine take_if (i := 12) (v := .pointer (some ⟨w.heap.size, 3, none⟩)) ((!((bif (bif (x1.kind == 4#64) then true else (x1.kind == 8#64)) then true else (x1.kind == 10#64)) != (x1.buckets != 0#64))) && (bif (bif (x1.kind == 4#64) then true else (x1.kind == 8#64)) then true else (x1.kind == 10#64))) (st_ups _ _) rfl rfl (by kernel_rfl) (fun _ _ _ _ h => h) (by generalize ((bif (bif (x1.kind == 4#64) then true else (x1.kind == 8#64)) then true else (x1.kind == 10#64)) != (x1.buckets != 0#64)) = gg0; cases gg0 <;> (generalize (bif (bif (x1.kind == 4#64) then true else (x1.kind == 8#64)) then true else (x1.kind == 10#64)) = gg1; cases gg1) <;> rfl) (by intro hb; obtain ⟨hl1, hr1⟩ := Bool.and_eq_true_iff.1 hb; have hb126_1 := hid (show ((bif (bif (x1.kind == 4#64) then true else (x1.kind == 8#64)) then true else (x1.kind == 10#64))) = true from hr1); have hb126_0 := hid (show (((bif (bif (x1.kind == 4#64) then true else (x1.kind == 8#64)) then true else (x1.kind == 10#64)) != (x1.buckets != 0#64))) = false from nnb hl1); intro x hx; (try simp only [hb]); (try simp only [hl1]); (try simp only [hr1]); (try simp only [cond_true]); go_simp; (first | done | exact rfl)) ?_
      simp only [List.set_cons_succ, List.set_cons_zero]
      refine take_if (i := 13) (v := .int .i64 (ti (x1.buckets))) ((!((bif (bif (x1.kind == 4#64) then true else (x1.kind == 8#64)) then true else (x1.kind == 10#64)) != (x1.buckets != 0#64))) && (bif (bif (x1.kind == 4#64) then true else (x1.kind == 8#64)) then true else (x1.kind == 10#64))) (st_ups _ _) rfl rfl (by kernel_rfl) (fun _ _ _ _ h => h) (by generalize ((bif (bif (x1.kind == 4#64) then true else (x1.kind == 8#64)) then true else (x1.kind == 10#64)) != (x1.buckets != 0#64)) = gg0; cases gg0 <;> (generalize (bif (bif (x1.kind == 4#64) then true else (x1.kind == 8#64)) then true else (x1.kind == 10#64)) = gg1; cases gg1) <;> rfl) (by intro hb; obtain ⟨hl1, hr1⟩ := Bool.and_eq_true_iff.1 hb; have hb127_1 := hid (show ((bif (bif (x1.kind == 4#64) then true else (x1.kind == 8#64)) then true else (x1.kind == 10#64))) = true from hr1); have hb127_0 := hid (show (((bif (bif (x1.kind == 4#64) then true else (x1.kind == 8#64)) then true else (x1.kind == 10#64)) != (x1.buckets != 0#64))) = false from nnb hl1); intro x hx; (try simp only [hb]); (try simp only [hl1]); (try simp only [hr1]); (try simp only [cond_true]); have f0 := hx.load 0 3 rfl rfl; go_simp; (first | done | exact rfl)) ?_
      simp only [List.set_cons_succ, List.set_cons_zero]
      refine take_if_call (i := 14) (f := 33) (args := #[.int .i64 (ti (x1.buckets))]) (v := .bool (ref_power x1.buckets)) ((!((bif (bif (x1.kind == 4#64) then true else (x1.kind == 8#64)) then true else (x1.kind == 10#64)) != (x1.buckets != 0#64))) && (bif (bif (x1.kind == 4#64) then true else (x1.kind == 8#64)) then true else (x1.kind == 10#64))) (st_ups _ _) rfl rfl (by kernel_rfl) (fun _ _ _ _ h => h) (by generalize ((bif (bif (x1.kind == 4#64) then true else (x1.kind == 8#64)) then true else (x1.kind == 10#64)) != (x1.buckets != 0#64)) = gg0; cases gg0 <;> (generalize (bif (bif (x1.kind == 4#64) then true else (x1.kind == 8#64)) then true else (x1.kind == 10#64)) = gg1; cases gg1) <;> rfl) (by intro hb; obtain ⟨hl1, hr1⟩ := Bool.and_eq_true_iff.1 hb; have hb128_1 := hid (show ((bif (bif (x1.kind == 4#64) then true else (x1.kind == 8#64)) then true else (x1.kind == 10#64))) = true from hr1); have hb128_0 := hid (show (((bif (bif (x1.kind == 4#64) then true else (x1.kind == 8#64)) then true else (x1.kind == 10#64)) != (x1.buckets != 0#64))) = false from nnb hl1); intro x hx; (try simp only [hb]); (try simp only [hl1]); (try simp only [hr1]); (try simp only [cond_true]); kernel_rfl) (by intro hb; obtain ⟨hl1, hr1⟩ := Bool.and_eq_true_iff.1 hb; have hb128_1 := hid (show ((bif (bif (x1.kind == 4#64) then true else (x1.kind == 8#64)) then true else (x1.kind == 10#64))) = true from hr1); have hb128_0 := hid (show (((bif (bif (x1.kind == 4#64) then true else (x1.kind == 8#64)) then true else (x1.kind == 10#64)) != (x1.buckets != 0#64))) = false from nnb hl1); intro x hx; exact ref_power_any x1.buckets _) ?_
      simp only [List.set_cons_succ, List.set_cons_zero]
      refine take_if (i := 15) (v := .bool ((!(ref_power x1.buckets)))) ((!((bif (bif (x1.kind == 4#64) then true else (x1.kind == 8#64)) then true else (x1.kind == 10#64)) != (x1.buckets != 0#64))) && (bif (bif (x1.kind == 4#64) then true else (x1.kind == 8#64)) then true else (x1.kind == 10#64))) (st_ups _ _) rfl rfl (by kernel_rfl) (fun _ _ _ _ h => h) (by generalize ((bif (bif (x1.kind == 4#64) then true else (x1.kind == 8#64)) then true else (x1.kind == 10#64)) != (x1.buckets != 0#64)) = gg0; cases gg0 <;> (generalize (bif (bif (x1.kind == 4#64) then true else (x1.kind == 8#64)) then true else (x1.kind == 10#64)) = gg1; cases gg1) <;> rfl) (by intro hb; obtain ⟨hl1, hr1⟩ := Bool.and_eq_true_iff.1 hb; have hb129_1 := hid (show ((bif (bif (x1.kind == 4#64) then true else (x1.kind == 8#64)) then true else (x1.kind == 10#64))) = true from hr1); have hb129_0 := hid (show (((bif (bif (x1.kind == 4#64) then true else (x1.kind == 8#64)) then true else (x1.kind == 10#64)) != (x1.buckets != 0#64))) = false from nnb hl1); intro x hx; (try simp only [hb]); (try simp only [hl1]); (try simp only [hr1]); (try simp only [cond_true]); go_simp; (first | done | exact rfl)) ?_
      simp only [List.set_cons_succ, List.set_cons_zero]
      refine take_if (i := 16) (v := .bool ((bif (bif (bif (x1.kind == 4#64) then true else (x1.kind == 8#64)) then true else (x1.kind == 10#64)) then (!(ref_power x1.buckets)) else false))) (!((bif (bif (x1.kind == 4#64) then true else (x1.kind == 8#64)) then true else (x1.kind == 10#64)) != (x1.buckets != 0#64))) (st_ups _ _) rfl rfl (by kernel_rfl) (fun _ _ _ _ h => h) (by generalize ((bif (bif (x1.kind == 4#64) then true else (x1.kind == 8#64)) then true else (x1.kind == 10#64)) != (x1.buckets != 0#64)) = gg0; cases gg0 <;> rfl) (by intro hb; have hb130 := hid (show (((bif (bif (x1.kind == 4#64) then true else (x1.kind == 8#64)) then true else (x1.kind == 10#64)) != (x1.buckets != 0#64))) = false from nnb hb); intro x hx; (try simp only [hb]); (try simp only [cond_true]); (cases hq : ((bif (bif (x1.kind == 4#64) then true else (x1.kind == 8#64)) then true else (x1.kind == 10#64))) <;> first | rfl | (simp only [hq]; rfl) | simp [hq])) ?_
      simp only [List.set_cons_succ, List.set_cons_zero]
      refine take_val (i := 17) (v := .bool ((bif ((bif (bif (x1.kind == 4#64) then true else (x1.kind == 8#64)) then true else (x1.kind == 10#64)) != (x1.buckets != 0#64)) then true else (bif (bif (bif (x1.kind == 4#64) then true else (x1.kind == 8#64)) then true else (x1.kind == 10#64)) then (!(ref_power x1.buckets)) else false)))) (st_ups _ _) rfl rfl (by kernel_rfl) (fun _ _ _ h => h) (by rfl) (by intro x hx; (cases hq : (((bif (bif (x1.kind == 4#64) then true else (x1.kind == 8#64)) then true else (x1.kind == 10#64)) != (x1.buckets != 0#64))) <;> first | rfl | (simp only [hq]; rfl) | simp [hq])) ?_
      simp only [List.set_cons_succ, List.set_cons_zero]
      refine take_done (by kernel_rfl) ?_ _
      intro W5 hx
      replace HS := hid hx
      clear hx
      cases h3 : ((bif ((bif (bif (x1.kind == 4#64) then true else (x1.kind == 8#64)) then true else (x1.kind == 10#64)) != (x1.buckets != 0#64)) then true else (bif (bif (bif (x1.kind == 4#64) then true else (x1.kind == 8#64)) then true else (x1.kind == 10#64)) then (!(ref_power x1.buckets)) else false)))
      · replace h3 := hid h3
        -- region 8
        go_upto_region 8 with fail
        refine lin_begin (St w [⟨w.heap.size, [some (.int .i64 (ti (x1.kind))), some (.int .i64 (ti (x1.entries))), some (.int .i64 (ti (x1.words))), some (.int .i64 (ti (x1.buckets))), some (.int .i64 (ti (x1.inner)))], 30⟩]) rfl HS.out ?_
        refine lin_val (i := 0) (v := .pointer (some ⟨w.heap.size, 0, none⟩)) rfl rfl (by rfl) (by intro x hx; go_simp; (first | done | exact rfl)) ?_
        simp only [List.set_cons_succ, List.set_cons_zero]
        refine lin_val (i := 1) (v := .int .i64 (ti (x1.kind))) rfl rfl (by rfl) (by intro x hx; have f0 := hx.load 0 0 rfl rfl; go_simp; (first | done | exact rfl)) ?_
        simp only [List.set_cons_succ, List.set_cons_zero]
        refine lin_call (i := 2) (f := 26) (args := #[.int .i64 (ti (x1.kind))]) (v := .bool ((bif (x1.kind == 9#64) then true else (x1.kind == 10#64)))) (st_ups _ _) rfl rfl (by rfl) (fun x hx => by kernel_rfl) (by intro x hx; exact ref_Nested_any x1.kind _) ?_
        simp only [List.set_cons_succ, List.set_cons_zero]
        refine lin_val (i := 3) (v := .bool ((!(bif (x1.kind == 9#64) then true else (x1.kind == 10#64))))) rfl rfl (by rfl) (by intro x hx; go_simp; (first | done | exact rfl)) ?_
        simp only [List.set_cons_succ, List.set_cons_zero]
        refine lin_done ?_
        intro W6 hx
        replace HS := hid hx
        clear hx
        cases h4 : ((!(bif (x1.kind == 9#64) then true else (x1.kind == 10#64))))
        · replace h4 := hid h4
          -- region 12
          go_upto_region 12 with fail
          refine lin_begin (St w [⟨w.heap.size, [some (.int .i64 (ti (x1.kind))), some (.int .i64 (ti (x1.entries))), some (.int .i64 (ti (x1.words))), some (.int .i64 (ti (x1.buckets))), some (.int .i64 (ti (x1.inner)))], 30⟩]) rfl HS.out ?_
          refine lin_val (i := 0) (v := .pointer (some ⟨w.heap.size, 4, none⟩)) rfl rfl (by rfl) (by intro x hx; go_simp; (first | done | exact rfl)) ?_
          simp only [List.set_cons_succ, List.set_cons_zero]
          refine lin_val (i := 1) (v := .int .i64 (ti (x1.inner))) rfl rfl (by rfl) (by intro x hx; have f0 := hx.load 0 4 rfl rfl; go_simp; (first | done | exact rfl)) ?_
          simp only [List.set_cons_succ, List.set_cons_zero]
          refine lin_val (i := 2) (v := .bool (ltI x1.inner 1#64)) rfl rfl (by rfl) (by intro x hx; go_simp; (first | done | exact ltIT x1.inner 1#64 | exact congrArg _ (ltIT x1.inner 1#64) | (rw [ltIT x1.inner 1#64]; done) | (rw [ltIT x1.inner 1#64]; rfl))) ?_
          simp only [List.set_cons_succ, List.set_cons_zero]
          refine lin_val (i := 3) (v := .bool (ltI x1.inner 1#64)) rfl rfl (by rfl) (by intro x hx; go_simp; (first | done | exact rfl)) ?_
          simp only [List.set_cons_succ, List.set_cons_zero]
          refine lin_if (i := 4) (v := .pointer (some ⟨w.heap.size, 4, none⟩)) (!(ltI x1.inner 1#64)) rfl rfl (by generalize (ltI x1.inner 1#64) = gg0; cases gg0 <;> rfl) (by intro hb; have hb131 := hid (show (ltI x1.inner 1#64) = false from nnb hb); intro x hx; (try simp only [hb]); (try simp only [cond_true]); go_simp; (first | done | exact rfl)) ?_
          simp only [List.set_cons_succ, List.set_cons_zero]
          refine lin_if (i := 5) (v := .int .i64 (ti (x1.inner))) (!(ltI x1.inner 1#64)) rfl rfl (by generalize (ltI x1.inner 1#64) = gg0; cases gg0 <;> rfl) (by intro hb; have hb132 := hid (show (ltI x1.inner 1#64) = false from nnb hb); intro x hx; (try simp only [hb]); (try simp only [cond_true]); have f0 := hx.load 0 4 rfl rfl; go_simp; (first | done | exact rfl)) ?_
          simp only [List.set_cons_succ, List.set_cons_zero]
          refine lin_if (i := 6) (v := .slice a len cap) (!(ltI x1.inner 1#64)) rfl rfl (by generalize (ltI x1.inner 1#64) = gg0; cases gg0 <;> rfl) (by intro hb; have hb133 := hid (show (ltI x1.inner 1#64) = false from nnb hb); intro x hx; (try simp only [hb]); (try simp only [cond_true]); go_simp; (first | done | exact rfl)) ?_
          simp only [List.set_cons_succ, List.set_cons_zero]
          refine lin_if (i := 7) (v := .int .i64 (ti (lenV len))) (!(ltI x1.inner 1#64)) rfl rfl (by generalize (ltI x1.inner 1#64) = gg0; cases gg0 <;> rfl) (by intro hb; have hb134 := hid (show (ltI x1.inner 1#64) = false from nnb hb); intro x hx; (try simp only [hb]); (try simp only [cond_true]); go_simp; (first | done | exact congrArg (fun v => Result.ok (Next.value (Value.int .i64 v)) x) (lenT HLN.out).symm | (rw [lenT HLN.out]; done) | (rw [lenT HLN.out]; rfl))) ?_
          simp only [List.set_cons_succ, List.set_cons_zero]
          refine lin_if (i := 8) (v := .bool (gtI x1.inner (lenV len))) (!(ltI x1.inner 1#64)) rfl rfl (by generalize (ltI x1.inner 1#64) = gg0; cases gg0 <;> rfl) (by intro hb; have hb135 := hid (show (ltI x1.inner 1#64) = false from nnb hb); intro x hx; (try simp only [hb]); (try simp only [cond_true]); go_simp; (first | done | exact gtIT x1.inner (lenV len) | exact congrArg _ (gtIT x1.inner (lenV len)) | (rw [gtIT x1.inner (lenV len)]; done) | (rw [gtIT x1.inner (lenV len)]; rfl))) ?_
          simp only [List.set_cons_succ, List.set_cons_zero]
          refine lin_val (i := 9) (v := .bool ((bif ltI x1.inner 1#64 then true else gtI x1.inner (lenV len)))) rfl rfl (by rfl) (by intro x hx; (cases hq : (ltI x1.inner 1#64) <;> first | rfl | (simp only [hq]; rfl) | simp [hq])) ?_
          simp only [List.set_cons_succ, List.set_cons_zero]
          refine lin_done ?_
          intro W7 hx
          replace HS := hid hx
          clear hx
          cases h5 : ((bif ltI x1.inner 1#64 then true else gtI x1.inner (lenV len)))
          · replace h5 := hid h5
            have c1 := HS.out.load 0 4 rfl rfl
            have HIN := hid (ix_out HLN.out h5.out)
            have HEND := hid (fun v (e : cond (bif ((L.getD (x1.inner.toNat - 1) dc0).kind == 9#64) then true else ((L.getD (x1.inner.toNat - 1) dc0).kind == 10#64)) 14#64 0#64 = v) => show ref_one x1 L len = v from by unfold ref_one; rw [cond_t h1.out, cond_f h2.out, cond_f h3.out, cond_f h4.out, cond_f h5.out]; exact e)
            obtain ⟨k, hk0, hk1, hk2⟩ := HIN.out
            rw [hk1] at c1
            rw [hk0] at HEND
            obtain ⟨b, off, rfl, hb, hr⟩ := HA.out.2 (by omega)
            obtain ⟨d0, _, _, _, _⟩ := hr.below HS.out.below hb k _ (map_get L k (by have := HA.out.1; simp at this; omega))
            generalize L.getD k dc0 = q at d0 HEND
            unfold Dc.di at d0
            simp only at d0
            have hln := HLN.out
            have h9 : ((k : Int) + 1 - 1) = (k : Int) := by omega
            clear hr hk0 hk1
            go_wp2_with fail
            refine (ref_Nested_any q.kind _).mono ?_
            rintro e w2 ⟨rfl, hb2⟩
            have HB2 := hid (HS.out.below.trans (hb2.mono HS.out.below.size))
            clear hb2
            generalize (bif (q.kind == 9#64) then true else (q.kind == 10#64)) = r at HEND ⊢
            cases r
            · go_wp2
              go_ret
              exact ⟨by rw [HEND.out _ rfl]; rfl, HB2.out⟩
            · go_wp2
              go_ret
              exact ⟨by rw [HEND.out _ rfl]; rfl, HB2.out⟩
          · replace h5 := hid h5
            -- region 13
            go_upto_region 13 with fail
            refine lin_begin (St w [⟨w.heap.size, [some (.int .i64 (ti (x1.kind))), some (.int .i64 (ti (x1.entries))), some (.int .i64 (ti (x1.words))), some (.int .i64 (ti (x1.buckets))), some (.int .i64 (ti (x1.inner)))], 30⟩]) rfl HS.out ?_
            refine lin_val (i := 0) (v := .int .i64 1) rfl rfl (by rfl) (by intro x hx; go_simp; (first | done | exact rfl)) ?_
            simp only [List.set_cons_succ, List.set_cons_zero]
            refine lin_done ?_
            intro W8 hx
            replace HS := hid hx
            clear hx
            go_wp2
            have HF : ref_one x1 L len = 1#64 := by
              unfold ref_one
              rw [cond_t h1.out, cond_f h2.out, cond_f h3.out, cond_f h4.out, cond_t h5.out]
            exact bodyPost_ret (v := .int .i64 1) (by simp [results, Tryd.results24, go_sem]) rfl ⟨(by first | (rw [HF]; done) | (rw [HF]; rfl)), HS.out.below⟩
        · replace h4 := hid h4
          -- region 9
          go_upto_region 9 with fail
          refine lin_begin (St w [⟨w.heap.size, [some (.int .i64 (ti (x1.kind))), some (.int .i64 (ti (x1.entries))), some (.int .i64 (ti (x1.words))), some (.int .i64 (ti (x1.buckets))), some (.int .i64 (ti (x1.inner)))], 30⟩]) rfl HS.out ?_
          refine lin_val (i := 0) (v := .pointer (some ⟨w.heap.size, 4, none⟩)) rfl rfl (by rfl) (by intro x hx; go_simp; (first | done | exact rfl)) ?_
          simp only [List.set_cons_succ, List.set_cons_zero]
          refine lin_val (i := 1) (v := .int .i64 (ti (x1.inner))) rfl rfl (by rfl) (by intro x hx; have f0 := hx.load 0 4 rfl rfl; go_simp; (first | done | exact rfl)) ?_
          simp only [List.set_cons_succ, List.set_cons_zero]
          refine lin_val (i := 2) (v := .bool ((x1.inner != 0#64))) rfl rfl (by rfl) (by intro x hx; go_simp; (first | done | exact neIT x1.inner 0#64 | exact congrArg _ (neIT x1.inner 0#64) | (rw [neIT x1.inner 0#64]; done) | (rw [neIT x1.inner 0#64]; rfl))) ?_
          simp only [List.set_cons_succ, List.set_cons_zero]
          refine lin_done ?_
          intro W7 hx
          replace HS := hid hx
          clear hx
          cases h5 : ((x1.inner != 0#64))
          · replace h5 := hid h5
            -- region 11
            go_upto_region 11 with fail
            refine lin_begin (St w [⟨w.heap.size, [some (.int .i64 (ti (x1.kind))), some (.int .i64 (ti (x1.entries))), some (.int .i64 (ti (x1.words))), some (.int .i64 (ti (x1.buckets))), some (.int .i64 (ti (x1.inner)))], 30⟩]) rfl HS.out ?_
            refine lin_val (i := 0) (v := .int .i64 0) rfl rfl (by rfl) (by intro x hx; go_simp; (first | done | exact rfl)) ?_
            simp only [List.set_cons_succ, List.set_cons_zero]
            refine lin_done ?_
            intro W8 hx
            replace HS := hid hx
            clear hx
            go_wp2
            have HF : ref_one x1 L len = 0#64 := by
              unfold ref_one
              rw [cond_t h1.out, cond_f h2.out, cond_f h3.out, cond_t h4.out, cond_f h5.out]
            exact bodyPost_ret (v := .int .i64 0) (by simp [results, Tryd.results24, go_sem]) rfl ⟨(by first | (rw [HF]; done) | (rw [HF]; rfl)), HS.out.below⟩
          · replace h5 := hid h5
            -- region 10
            go_upto_region 10 with fail
            refine lin_begin (St w [⟨w.heap.size, [some (.int .i64 (ti (x1.kind))), some (.int .i64 (ti (x1.entries))), some (.int .i64 (ti (x1.words))), some (.int .i64 (ti (x1.buckets))), some (.int .i64 (ti (x1.inner)))], 30⟩]) rfl HS.out ?_
            refine lin_val (i := 0) (v := .int .i64 1) rfl rfl (by rfl) (by intro x hx; go_simp; (first | done | exact rfl)) ?_
            simp only [List.set_cons_succ, List.set_cons_zero]
            refine lin_done ?_
            intro W8 hx
            replace HS := hid hx
            clear hx
            go_wp2
            have HF : ref_one x1 L len = 1#64 := by
              unfold ref_one
              rw [cond_t h1.out, cond_f h2.out, cond_f h3.out, cond_t h4.out, cond_t h5.out]
            exact bodyPost_ret (v := .int .i64 1) (by simp [results, Tryd.results24, go_sem]) rfl ⟨(by first | (rw [HF]; done) | (rw [HF]; rfl)), HS.out.below⟩
      · replace h3 := hid h3
        -- region 7
        go_upto_region 7 with fail
        refine lin_begin (St w [⟨w.heap.size, [some (.int .i64 (ti (x1.kind))), some (.int .i64 (ti (x1.entries))), some (.int .i64 (ti (x1.words))), some (.int .i64 (ti (x1.buckets))), some (.int .i64 (ti (x1.inner)))], 30⟩]) rfl HS.out ?_
        refine lin_val (i := 0) (v := .int .i64 1) rfl rfl (by rfl) (by intro x hx; go_simp; (first | done | exact rfl)) ?_
        simp only [List.set_cons_succ, List.set_cons_zero]
        refine lin_done ?_
        intro W6 hx
        replace HS := hid hx
        clear hx
        go_wp2
        have HF : ref_one x1 L len = 1#64 := by
          unfold ref_one
          rw [cond_t h1.out, cond_f h2.out, cond_t h3.out]
        exact bodyPost_ret (v := .int .i64 1) (by simp [results, Tryd.results24, go_sem]) rfl ⟨(by first | (rw [HF]; done) | (rw [HF]; rfl)), HS.out.below⟩
    · replace h2 := hid h2
      -- region 5
      go_upto_region 5 with fail
      refine lin_begin (St w [⟨w.heap.size, [some (.int .i64 (ti (x1.kind))), some (.int .i64 (ti (x1.entries))), some (.int .i64 (ti (x1.words))), some (.int .i64 (ti (x1.buckets))), some (.int .i64 (ti (x1.inner)))], 30⟩]) rfl HS.out ?_
      refine lin_val (i := 0) (v := .int .i64 1) rfl rfl (by rfl) (by intro x hx; go_simp; (first | done | exact rfl)) ?_
      simp only [List.set_cons_succ, List.set_cons_zero]
      refine lin_done ?_
      intro W5 hx
      replace HS := hid hx
      clear hx
      go_wp2
      have HF : ref_one x1 L len = 1#64 := by
        unfold ref_one
        rw [cond_t h1.out, cond_t h2.out]
      exact bodyPost_ret (v := .int .i64 1) (by simp [results, Tryd.results24, go_sem]) rfl ⟨(by first | (rw [HF]; done) | (rw [HF]; rfl)), HS.out.below⟩
end Go.Proofs.YtejcjjimhaokfaaDoor.Dcl
